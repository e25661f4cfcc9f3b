/-
  Texts of MS joined (VecB, VecC, VecC2, VecD, VecE, VecG, VecH, VecJ, VecK, VecL, VecR).
-/
import Derived.Handy
import Derived.Laws.CopyOwn
import Derived.Deep.RegionLaw
import Derived.Test.YtbcpeagannjgpaaGreatDoorMS1
set_option linter.unusedVariables false
set_option linter.unusedSimpArgs false
set_option linter.unusedSectionVars false
namespace Go.Proofs.YtbcpeagannjgpaaGreatDoor
section
open Go.RowKit
set_option maxRecDepth 100000
set_option linter.unusedSimpArgs false
set_option linter.unusedVariables false
/-- A function of the program that is entered when it is called. -/
def Ent (N : Nat) : Prop := ∀ args w, (callFunc N args).run Tryz.prog w = .ok (.enter N args) w
/-- A function value that tells something of a bit and only computes. -/
structure Tells (N : Nat) (p : Int → Bool) : Prop where
  cf : Ent N
  ct : ∀ x w, Calls Tryz.prog N #[.int .u8 x] w fun e w' => e = .returned (.bool (p x)) ∧ w = w'
theorem tells_invalid : Tells 191 (fun x => !mValid x) := by
  refine ⟨Tryz.call191, fun x w => ?_⟩
  go_enter Tryz.func191, Tryz.ntmps191
  go_wp2_with (go_at_call 192; refine (valid_q _ _).mono ?_; rintro e w' ⟨rfl, rfl⟩)
  go_ret
  exact ⟨rfl, rfl⟩
theorem tells_unknown : Tells 170 (fun x => !mKnown x) := by
  refine ⟨Tryz.call170, fun x w => ?_⟩
  go_enter Tryz.func170, Tryz.ntmps170
  go_wp2_with (go_at_call 94; refine (known_q _ _).mono ?_; rintro e w' ⟨rfl, rfl⟩)
  go_ret
  exact ⟨rfl, rfl⟩
theorem indexf_q (N : Nat) (p : Int → Bool) (hp : Tells N p) (A : Option Addr) (a : List Int) (c : Nat) (w : World) (ha : a.length ≤ 4096) (hA : RQ w A a) :
    Calls Tryz.prog 195 #[.slice A a.length c, .func (.func N) #[] #[]] w fun e w' => (∃ i : Int, e = .returned (.int .i64 i) ∧ (0 ≤ i ↔ a.any p = true)) ∧ w = w' := by
  have HA := hide hA
  have hcf : ∀ args w, (callFunc N args).run Tryz.prog w = .ok (.enter N args) w := hp.cf
  have Hp := hide hp.ct
  clear hA hp
  show Calls _ _ _ _ (fun e w' => (fun (e : Ending) => ∃ i : Int, e = .returned (.int .i64 i) ∧ (0 ≤ i ↔ a.any p = true)) e ∧ w = w')
  generalize hP : (fun (e : Ending) => ∃ i : Int, e = .returned (.int .i64 i) ∧ (0 ≤ i ↔ a.any p = true)) = PP
  have HP := hide hP
  clear hP
  go_enter Tryz.func195, Tryz.ntmps195
  go_wp2
  go_loop [8] (fun i => ∃ k : Nat, k ≤ a.length ∧ i = .int .i64 k ∧ Hid (∀ j, j < k → p (qt a j) = false)) (fun i => a.length - (intOf i).toNat)
  case atStart => exact ⟨0, Nat.zero_le _, rfl, hide fun j hj => by omega⟩
  case round =>
    obtain ⟨k, hk, rfl, hno⟩ := hrel
    by_cases hlt : k < a.length
    · obtain ⟨ad, rfl, hlt1, hc⟩ := HA.out.at_ hlt
      have hcall := hide (Hp.out (qt a k) w)
      cases hx : p (qt a k)
      · rw [hx] at hcall
        have hx' := hide hx
        clear hx
        go_wp2_with (refine (hcall.out).mono ?_; rintro e w' ⟨rfl, rfl⟩)
        go_round
        case rel => exact ⟨k + 1, by omega, by go_num, hide fun j hj => by
          by_cases e : j = k
          · subst e; exact hx'.out
          · exact hno.out j (by omega)⟩
        case measure => simp [intOf]; omega
      · rw [hx] at hcall
        have hx' := hide hx
        clear hx
        go_wp2_with (refine (hcall.out).mono ?_; rintro e w' ⟨rfl, rfl⟩)
        go_ret
        refine ⟨?_, rfl⟩
        rw [← HP.out]
        exact ⟨k, rfl, by
          constructor <;> intro _
          · exact List.any_eq_true.2 ⟨a[k], List.getElem_mem hlt, by rw [← qt_get hlt]; exact hx'.out⟩
          · omega⟩
    · go_wp2
      go_ret
      refine ⟨?_, rfl⟩
      rw [← HP.out]
      refine ⟨-1, rfl, ?_⟩
      constructor <;> intro h
      · omega
      · exfalso
        obtain ⟨x, hx, h2⟩ := List.any_eq_true.1 h
        obtain ⟨i, hi, rfl⟩ := List.getElem_of_mem hx
        have := hno.out i (by omega)
        rw [qt_get hi, h2] at this
        cases this
theorem containsf_q (N : Nat) (p : Int → Bool) (hp : Tells N p) (A : Option Addr) (a : List Int) (c : Nat) (w : World) (ha : a.length ≤ 4096) (hA : RQ w A a) :
    Calls Tryz.prog 169 #[.slice A a.length c, .func (.func N) #[] #[]] w fun e w' => e = .returned (.bool (a.any p)) ∧ w = w' := by
  go_enter Tryz.func169, Tryz.ntmps169
  go_wp2_with fail
  refine (indexf_q N p hp _ _ _ _ ha hA).mono ?_
  rintro e w' ⟨⟨i, rfl, hi⟩, rfl⟩
  have HI := hide hi
  clear hi
  go_wp2
  go_ret
  refine ⟨ret_bool ?_, rfl⟩
  cases hx : a.any p
  · exact decide_eq_false fun h => by rw [HI.out.1 h] at hx; cases hx
  · exact decide_eq_true (HI.out.2 hx)
theorem any_ok (l : List Int) : (l.any fun x => !mValid x) = !okB l := by
  unfold okB mValid; rw [List.all_eq_not_any_not, Bool.not_not]
theorem any_kn (l : List Int) : (l.any fun x => !mKnown x) = !kn l := by
  unfold kn; rw [List.all_eq_not_any_not, Bool.not_not]
theorem check_any (A : Option Addr) (a : List Int) (c : Nat) (s : Bool) (w : World) (ha : a.length ≤ 4096) (hA : RQ w A a) :
    Calls Tryz.prog 166 #[.agg #[.slice A a.length c, .bool s]] w (Mk (.int .i64 (chk a)) w) := by
  have HA := hide hA
  clear hA
  have hcall := hide fun ha' => containsf_q _ _ tells_invalid A a c (w.alloc (.cells #[.slice A a.length c, .bool s] 24)) ha' (HA.out.below ((Below.refl _ _).alloc (Nat.le_refl _) _))
  rw [any_ok] at hcall
  obtain ⟨r, hr⟩ : ∃ r, r = chk a := ⟨_, rfl⟩
  rw [← hr]
  have HR := hide hr
  clear hr
  unfold chk at HR
  by_cases h1 : a.length = 0
  · rw [if_pos h1] at HR
    have e := HR.out
    subst e
    clear HR
    go_enter Tryz.func166, Tryz.ntmps166
    go_wp2
    go_ret
    exact ⟨rfl, (Below.refl _ _).alloc (Nat.le_refl _) _⟩
  · rw [if_neg h1] at HR
    by_cases h2 : 128 < a.length
    · rw [if_pos h2] at HR
      have e := HR.out
      subst e
      clear HR
      go_enter Tryz.func166, Tryz.ntmps166
      go_wp2
      go_ret
      exact ⟨rfl, (Below.refl _ _).alloc (Nat.le_refl _) _⟩
    · rw [if_neg h2] at HR
      cases hk : okB a <;> rw [hk] at hcall HR
      all_goals
        have e := HR.out
        subst e
        clear HR
        go_enter Tryz.func166, Tryz.ntmps166
        go_wp2_with (refine (hcall.out ha).mono ?_; rintro e w' ⟨rfl, rfl⟩)
        go_ret
        exact ⟨rfl, (Below.refl _ _).alloc (Nat.le_refl _) _⟩
/-- What a call leaves that answers a new vector of which P holds. -/
def RetC (P : Vc → Prop) (w : World) (e : Ending) (w' : World) : Prop :=
  ∃ l s A c, Hid (P ⟨l, s⟩) ∧ e = .returned (.agg #[.slice A l.length c, .bool s]) ∧ Hid (l.length ≤ c ∧ c ≤ maxLen) ∧ Hid (OwQ w.heap.size w' A l) ∧ Below w.heap.size w w'
/-- A slice that reads as a vector, and lies outside some blocks. -/
def RG (B0 B1 : Nat) (w : World) (A : Option Addr) (l : List Int) : Prop :=
  0 < l.length → ∃ ad, A = some ad ∧ ad.block < w.heap.size ∧ (ad.block < B0 ∨ B1 ≤ ad.block) ∧ ∀ i, i < l.length → w.cell? (ad.add i) = some (.int .u8 (qt l i))
section
variable {B0 B1 B : Nat} {w w' : World} {A : Option Addr} {l : List Int}
theorem RG.rd (h : RG B0 B1 w A l) : RQ w A l := fun hn => by
  obtain ⟨ad, e, h1, _, h3⟩ := h hn
  exact ⟨ad, e, h1, h3⟩
theorem RG.setc (h : RG B0 B1 w A l) {p : Addr} (h0 : B0 ≤ p.block) (h1 : p.block < B1) (u : Value) : RG B0 B1 (w.setCell p u) A l := fun hn => by
  obtain ⟨ad, e, hl, hg, hc⟩ := h hn
  refine ⟨ad, e, by simpa using hl, hg, fun i hi => ?_⟩
  rw [World.cell?_setCell_other _ _ _ _ (by intro k; have := congrArg Addr.block k; rw [block_of_add] at this; omega)]
  exact hc i hi
theorem RG.kept (h : RG B0 B1 w A l) (hb : Below w.heap.size w w') : RG B0 B1 w' A l := fun hn => by
  obtain ⟨ad, e, hl, hg, hc⟩ := h hn
  exact ⟨ad, e, Nat.lt_of_lt_of_le hl hb.size, hg, fun i hi => (hb.cell (p := ad.add i) (by rw [block_of_add]; exact hl)).trans (hc i hi)⟩
theorem RG.allc (h : RG B0 B1 w A l) (o : Obj) : RG B0 B1 (w.alloc o) A l := h.kept ((Below.refl _ _).alloc (Nat.le_refl _) _)
theorem RG.drew (h : RG B0 B1 w A l) : RG B0 B1 w.drew A l := h
theorem RG.drewN (h : RG B0 B1 w A l) (n : Nat) : RG B0 B1 (w.drewN n) A l := h
theorem RQ.rg (h : RQ w A l) (h0 : w.heap.size ≤ B0) : RG B0 B1 w A l := fun hn => by
  obtain ⟨ad, e, hl, hc⟩ := h hn
  exact ⟨ad, e, hl, Or.inl (by omega), hc⟩
theorem OwQ.rg (h : OwQ B w A l) (h0 : B1 ≤ B) : RG B0 B1 w A l := fun hn => by
  obtain ⟨g, e, hB, hr⟩ := h hn
  exact ⟨_, e, hr.lt, Or.inr (by show B1 ≤ g; omega), fun i hi => by rw [addr_add]; exact hr.cell hi⟩
theorem OwQ.far (h : OwQ B w A l) {p : Addr} (h1 : p.block < B) (u : Value) : OwQ B (w.setCell p u) A l := fun hn => by
  obtain ⟨g, e, hB, hr⟩ := h hn
  exact ⟨g, e, hB, hr.far (by omega) u⟩
theorem OwQ.allc (h : OwQ B w A l) (o : Obj) : OwQ B (w.alloc o) A l := h.kept ((Below.refl _ _).alloc (Nat.le_refl _) _)
theorem OwQ.drew (h : OwQ B w A l) : OwQ B w.drew A l := h
theorem OwQ.drewN (h : OwQ B w A l) (n : Nat) : OwQ B (w.drewN n) A l := h
end
theorem cset_ne {w : World} {b o b2 o2 : Nat} {u : Value} {r : Option Value} (h : b ≠ b2 ∨ o ≠ o2) (k : w.cell? ⟨b2, o2, none⟩ = r) : (w.setCell ⟨b, o, none⟩ u).cell? ⟨b2, o2, none⟩ = r := by
  rw [World.cell?_setCell_other _ _ _ _ (by intro e; injection e with e1 e2; omega)]; exact k
theorem cset_eq {w : World} {b o : Nat} {u v : Value} (k : w.cell? ⟨b, o, none⟩ = some v) : (w.setCell ⟨b, o, none⟩ u).cell? ⟨b, o, none⟩ = some u := World.cell?_setCell_same _ _ _ k
theorem cset_eq' {w : World} {b o : Nat} {u : Value} (k : ∃ v, w.cell? ⟨b, o, none⟩ = some v) : (w.setCell ⟨b, o, none⟩ u).cell? ⟨b, o, none⟩ = some u := by obtain ⟨v, k⟩ := k; exact cset_eq k
theorem fset {w : World} {p : Addr} {b o : Nat} {u : Value} (k : w.frozen? ⟨b, o, none⟩ = false) : (w.setCell p u).frozen? ⟨b, o, none⟩ = false := by simpa using k
theorem cset_ex {w : World} {p : Addr} {b o : Nat} {u : Value} (k : ∃ v, w.cell? ⟨b, o, none⟩ = some v) : ∃ v, (w.setCell p u).cell? ⟨b, o, none⟩ = some v := by obtain ⟨v, k⟩ := k; exact cell?_setCell_some k
/-- What a call leaves that answers a vector, new or its argument. -/
def RetK (P : Vc → Prop) (w0 w : World) (e : Ending) (w' : World) : Prop :=
  ∃ l s A c, Hid (P ⟨l, s⟩) ∧ e = .returned (.agg #[.slice A l.length c, .bool s]) ∧ Hid (l.length ≤ c ∧ c ≤ maxLen) ∧ Hid (RG w0.heap.size w.heap.size w' A l) ∧ Below w.heap.size w w'
theorem RetC.mono {P Q : Vc → Prop} {w w' : World} {e : Ending} (h : RetC P w e w') (k : ∀ v, P v → Q v) : RetC Q w e w' := by
  obtain ⟨l, s, A, c, h1, h2⟩ := h
  exact ⟨l, s, A, c, hide (k _ h1.out), h2⟩
theorem single_any (x : Int) (w : World) :
    Calls Tryz.prog 136 #[.int .u8 x] w (RetC (· = sgl x) w) := by
  go_enter Tryz.func136, Tryz.ntmps136
  go_wp2
  refine bodyPost_ret (v := .agg #[.slice (some ⟨w.heap.size + 1, 0, none⟩) 1 1, .bool false]) (by simp [results, Tryz.results136, go_sem]) rfl ?_
  refine ⟨[x], false, _, 1, hide rfl, rfl, hide ⟨Nat.le_refl _, by simp [maxLen]⟩, hide fun _ => ⟨_, rfl, by omega, ⟨#[.int .u8 x], by simpa using heap_alloc_new (w.alloc _) _, fun i hi => ?_⟩⟩, by (repeat (first | exact Below.refl _ _ | assumption | refine Below.setCell ?_ (by first | (simp; done) | (simp; omega) | omega) _ | refine Below.alloc ?_ (by first | (simp; done) | (simp; omega) | omega) _ | refine below_drewN ?_ _ | refine Below.drew ?_))⟩
  obtain rfl : i = 0 := by simpa using hi
  rfl
theorem counted_any (A : Option Addr) (a : List Int) (c : Nat) (s : Bool) (w0 w : World) (ha : a.length ≤ 4096) (hca : Hid (a.length ≤ c ∧ c ≤ maxLen)) (hA : RQ w0 A a) (h0 : Below w0.heap.size w0 w) :
    Calls Tryz.prog 101 #[.agg #[.slice A a.length c, .bool s]] w (RetK (· = cnt ⟨a, s⟩) w0 w) := by
  have HA := hide (hA.below h0)
  have HA0 := hide hA
  have H0 := hide h0
  clear hA h0
  obtain ⟨r, hr⟩ : ∃ r, r = chk a := ⟨_, rfl⟩
  have hcall := hide fun W (hB : Below w.heap.size w W) => check_any A a c s W ha (HA.out.below hB)
  rw [← hr] at hcall
  by_cases h0 : r = 0
  · have HC := hide (show (⟨a, s⟩ : Vc) = cnt ⟨a, s⟩ by unfold cnt; rw [if_pos (hr.symm.trans h0)])
    subst h0
    clear hr
    go_enter Tryz.func101, Tryz.ntmps101
    go_wp2_with fail
    refine (hcall.out _ belo).mono ?_
    rintro e w1 ⟨rfl, hb⟩
    have hB1 : Below w.heap.size w w1 := Below.trans belo (hb.mono (by first | omega | (simp; done) | (simp; omega)))
    obtain ⟨kc1, kf1⟩ := bcell hb
    have hz1 := hb.size
    (try simp at hz1)
    have n1_0 : w.heap.size < w1.heap.size := by omega
    have n1_1 : w.heap.size + 1 < w1.heap.size := by omega
    clear hb
    go_wp2
    refine bodyPost_ret (v := .agg #[.slice A a.length c, .bool s]) (by simp [results, Tryz.results101, go_sem, *]) rfl ?_

    exact ⟨a, s, A, c, HC, rfl, hca, hide ((HA0.out.rg (Nat.le_refl _)).kept (H0.out.trans (Below.mono (w := w) belo H0.out.size))), belo⟩
  · have HC := hide (show sgl 2 = cnt ⟨a, s⟩ by unfold cnt; rw [if_neg (by rw [← hr]; exact h0)]; rfl)
    clear hr
    go_enter Tryz.func101, Tryz.ntmps101
    go_wp2_with fail
    refine (hcall.out _ belo).mono ?_
    rintro e w1 ⟨rfl, hb⟩
    have hB1 : Below w.heap.size w w1 := Below.trans belo (hb.mono (by first | omega | (simp; done) | (simp; omega)))
    obtain ⟨kc1, kf1⟩ := bcell hb
    have hz1 := hb.size
    (try simp at hz1)
    have n1_0 : w.heap.size < w1.heap.size := by omega
    have n1_1 : w.heap.size + 1 < w1.heap.size := by omega
    clear hb
    go_wp2_with fail
    refine (single_any _ _).mono ?_
    rintro e w2 ⟨l, t, B, d, hl, rfl, hd, ho, hb⟩
    have hB2 : Below w.heap.size w w2 := Below.trans belo (hb.mono (by first | omega | (simp; done) | (simp; omega)))
    obtain ⟨kc2, kf2⟩ := bcell hb
    have hz2 := hb.size
    (try simp at hz2)
    have n2_0 : w.heap.size < w2.heap.size := by omega
    have n2_1 : w.heap.size + 1 < w2.heap.size := by omega
    clear hb
    go_wp2
    refine bodyPost_ret (v := .agg #[.slice B l.length d, .bool t]) (by simp [results, Tryz.results101, go_sem, *]) rfl ?_

    exact ⟨l, t, B, d, hide (hl.out.trans HC.out), rfl, hd, hide (OwQ.rg (OwQ.far (OwQ.far ho.out (by simp; omega) _) (by simp; omega) _) (by omega)), belo⟩
theorem known_any (A : Option Addr) (a : List Int) (c : Nat) (w : World) (ha : a.length ≤ 4096) (hA : RQ w A a) :
    Calls Tryz.prog 116 #[.slice A a.length c] w fun e w' => e = .returned (.bool (kn a)) ∧ w = w' := by
  have hcall := hide (containsf_q _ _ tells_unknown A a c w ha hA)
  rw [any_kn] at hcall
  clear hA
  go_enter Tryz.func116, Tryz.ntmps116
  go_wp2_with (refine (hcall.out).mono ?_; rintro e w' ⟨rfl, rfl⟩)
  go_ret
  exact ⟨by simp, rfl⟩
set_option maxHeartbeats 1000000 in
theorem number_any (A : Option Addr) (a : List Int) (c : Nat) (w : World) (ha : a.length ≤ 4096) (hA : RQ w A a) :
    Calls Tryz.prog 117 #[.slice A a.length c] w (MkV (nb a) w) := by
  have HA := hide hA
  clear hA
  go_enter Tryz.func117, Tryz.ntmps117
  go_wp2_with (at_make; refine wpList_make_bv _ rfl _ _ rfl _ _ a.length rfl rfl rfl rfl ha ?_; intro w1 hr1 hb1 hz1)
  go_loopw [11] (fun i wr => ∃ k : Nat, k ≤ a.length ∧ i = .int .i64 k ∧ FillR w a.length k (fun i => decide (qt a i = 1)) wr) (fun i _ => a.length - (intOf i).toNat)
  case atStart => exact ⟨0, Nat.zero_le _, rfl, FillR.start hr1 hb1⟩
  case round =>
    obtain ⟨k, hk, rfl, hR⟩ := hrel
    clear hr1 hb1
    by_cases hlt : k < a.length
    · have hRH := hide hR
      have hcg : wr.cell? ⟨w.heap.size, k, none⟩ = some (.bool (Par k (fun i => decide (qt a i = 1)) k)) := hR.row.cell hlt
      have hf : wr.frozen? ⟨w.heap.size, k, none⟩ = false := hR.row.free _
      obtain ⟨ad, rfl, hlt1, hc⟩ := (HA.out.below hR.bel).at_ hlt
      clear hR
      go_wp2
      go_roundw
      case rel => exact ⟨k + 1, by omega, by go_num, hRH.out.step⟩
      case measure => simp [intOf]; omega
    · have hRH := hide hR
      clear hR
      go_wp2
      go_ret
      have e : k = a.length := by omega
      subst e
      exact FillR.done (c := 0) hRH.out rfl ha
end
section
open Go.RowKit
set_option maxRecDepth 100000
set_option linter.unusedSimpArgs false
set_option linter.unusedVariables false
theorem fits_any (z : Int) (w : World) : Calls Tryz.prog 99 #[.int .i64 z] w fun e w' => e = .returned (.bool (decide (1 ≤ z ∧ z ≤ 128))) ∧ w = w' := by
  by_cases h1 : 1 ≤ z <;> by_cases h2 : z ≤ 128
  all_goals
    go_enter Tryz.func99, Tryz.ntmps99
    go_wp2
    go_ret
    exact ⟨by simp [h1, h2], rfl⟩
theorem extension_any (A : Option Addr) (a : List Int) (c : Nat) (s : Bool) (w0 w : World) (h1 : 0 < a.length) (ha : a.length ≤ 4096) (hA : RQ w A a) :
    Calls Tryz.prog 141 #[.agg #[.slice A a.length c, .bool s]] w (Mk (.int .u8 (xt ⟨a, s⟩)) w) := by
  obtain ⟨ad, rfl, hb, hc⟩ := hA.at_ (i := a.length - 1) (by omega)
  clear hA
  have e : xt ⟨a, s⟩ = if s then qt a (a.length - 1) else 0 := rfl
  rw [e]
  clear e
  obtain ⟨n, hn⟩ : ∃ n, a.length = n + 1 := ⟨a.length - 1, by omega⟩
  have hm : n ≤ 4096 := by omega
  rw [hn] at hc ⊢
  simp only [Nat.add_sub_cancel] at hc ⊢
  generalize qt a n = v at *
  clear hn ha h1
  have HB := hide hb
  cases s
  · go_enter Tryz.func141, Tryz.ntmps141
    go_wp2
    go_ret
    exact ⟨rfl, (Below.refl _ _).alloc (Nat.le_refl _) _⟩
  · go_enter Tryz.func141, Tryz.ntmps141
    have hc2 : (w.alloc (.cells #[.slice (some ad) (n + 1) c, .bool true] 24)).cell? (ad.add n) = some (.int .u8 v) := ((Below.refl w.heap.size w).alloc (Nat.le_refl _) _).cell (p := ad.add n) (by rw [block_of_add]; exact hb) |>.trans hc
    go_wp2
    go_ret
    exact ⟨rfl, (Below.refl _ _).alloc (Nat.le_refl _) _⟩
theorem FillQ.step2 {w wr : World} {n k : Nat} {f : Nat → Int} (h : FillQ w n k f wr) (u : Int) : FillQ w n (k + 1) f ((wr.setCell ⟨w.heap.size, k, none⟩ (.int .u8 u)).setCell ⟨w.heap.size, k, none⟩ (.int .u8 (f k))) where
  row := ((h.row.set_ k _).set_ k _).congr fun j _ => by
    rw [← ParQ.step k f j]
    by_cases e : j = k <;> simp [e]
  bel := (h.bel.setCell (by simp) _).setCell (by simp) _
set_option maxHeartbeats 1000000 in
theorem window_any (A : Option Addr) (a : List Int) (c n : Nat) (lo f : Int) (w : World) (ha : a.length ≤ 4096) (hn : n ≤ 4096) (h1 : -9223372036854775808 ≤ lo) (h2 : lo + n ≤ 9223372036854775808) (hA : RQ w A a) :
    Calls Tryz.prog 106 #[.slice A a.length c, .int .i64 lo, .int .i64 n, .int .u8 f] w (MkQ (wdw a lo n f) w) := by
  have HA := hide hA
  clear hA
  obtain ⟨F, hF⟩ : ∃ F : Nat → Int, F = fun (i : Nat) => if 0 ≤ lo + i ∧ lo + i < a.length then qt a (lo + i).toNat else f := ⟨_, rfl⟩
  have HF := hide hF
  clear hF
  have HE : Hid (wdw a lo n f = ql n F) := hide (by rw [HF.out]; rfl)
  go_enter Tryz.func106, Tryz.ntmps106
  go_wp2_with (at_make; refine wpList_make_q _ rfl _ _ rfl _ _ n rfl rfl rfl rfl hn ?_; intro w1 hr1 hb1 hz1)
  go_loopw [16] (fun i wr => ∃ k : Nat, k ≤ n ∧ i = .int .i64 k ∧ FillQ w n k F wr) (fun i _ => n - (intOf i).toNat)
  case atStart => exact ⟨0, Nat.zero_le _, rfl, FillQ.start hr1 hb1⟩
  case round =>
    obtain ⟨k, hk, rfl, hR⟩ := hrel
    clear hr1 hb1
    by_cases hlt : k < n
    · have hRH := hide hR
      have hcg : wr.cell? ⟨w.heap.size, k, none⟩ = some (.int .u8 (ParQ k F k)) := hR.row.cell hlt
      have hf : wr.frozen? ⟨w.heap.size, k, none⟩ = false := hR.row.free _
      have hb3 : -9223372036854775808 ≤ lo + k := by omega
      have hb4 : lo + k ≤ 9223372036854775807 := by omega
      by_cases hin : 0 ≤ lo + k ∧ lo + k < a.length
      · obtain ⟨ad, rfl, hlt1, hc0⟩ := HA.out.at_ (i := (lo + k).toNat) (by omega)
        have hc : (wr.setCell ⟨w.heap.size, k, none⟩ (.int .u8 f)).cell? (ad.add (lo + k).toNat) = some (.int .u8 (qt a (lo + k).toNat)) := ((hR.bel.setCell (by simp) _).cell (p := ad.add (lo + k).toNat) (by rw [block_of_add]; exact hlt1)).trans hc0
        have hval : Hid (F k = qt a (lo + k).toNat) := hide (by rw [HF.out]; exact if_pos hin)
        clear hR
        obtain ⟨h5, h6⟩ := hin
        go_wp2
        go_roundw
        case rel => exact ⟨k + 1, by omega, by go_num, by rw [← hval.out]; exact hRH.out.step2 f⟩
        case measure => simp [intOf]; omega
      · have hval : Hid (F k = f) := hide (by rw [HF.out]; exact if_neg hin)
        clear hR
        rcases (show lo + (k : Int) < 0 ∨ (0 ≤ lo + (k : Int) ∧ (a.length : Int) ≤ lo + k) by omega) with h5 | ⟨h5, h6⟩
        all_goals
          clear hin
          go_wp2
          go_roundw
          case rel => exact ⟨k + 1, by omega, by go_num, by rw [← hval.out]; exact hRH.out.step⟩
          case measure => simp [intOf]; omega
    · have hRH := hide hR
      clear hR
      go_wp2
      go_ret
      have e : k = n := by omega
      subst e
      exact FillQ.done (c := 0) hRH.out HE.out hn
section
variable {w W w' : World} {g g2 : Nat} {x y x2 y2 : Value}
theorem k1_bel (h : Below w.heap.size w W ∧ g < W.heap.size ∧ W.cell? ⟨g, 0, none⟩ = some x ∧ W.cell? ⟨g, 1, none⟩ = some y) : Below w.heap.size w W := h.1
theorem k1_call (h : Below w.heap.size w W ∧ g < W.heap.size ∧ W.cell? ⟨g, 0, none⟩ = some x ∧ W.cell? ⟨g, 1, none⟩ = some y) (hb : Below W.heap.size W w') : Below w.heap.size w w' ∧ g < w'.heap.size ∧ w'.cell? ⟨g, 0, none⟩ = some x ∧ w'.cell? ⟨g, 1, none⟩ = some y := by
  obtain ⟨h0, h1, h2, h3⟩ := h
  exact ⟨h0.trans (hb.mono h0.size), Nat.lt_of_lt_of_le h1 hb.size, (hb.cell (p := ⟨g, 0, none⟩) h1).trans h2, (hb.cell (p := ⟨g, 1, none⟩) h1).trans h3⟩
end
theorem resized_any (A : Option Addr) (a : List Int) (c n : Nat) (s : Bool) (w : World) (h1 : 0 < a.length) (ha : a.length ≤ 4096) (hn : n ≤ 4096) (hA : RQ w A a) :
    Calls Tryz.prog 102 #[.agg #[.slice A a.length c, .bool s], .int .i64 n] w (MkQ (rsz ⟨a, s⟩ n) w) := by
  have HA := hide hA
  have HX := hide (rsz_wdw ⟨a, s⟩ n)
  clear hA
  go_enter Tryz.func102, Tryz.ntmps102
  go_wp2_with fail
  go_region_held3 (fun w' => Below w.heap.size w w' ∧ w.heap.size < w'.heap.size ∧ w'.cell? ⟨w.heap.size, 0, none⟩ = some (.slice A a.length c) ∧ w'.cell? ⟨w.heap.size, 1, none⟩ = some (.bool s))
    (first
      | exact ⟨by (repeat (first | exact Below.refl _ _ | assumption | refine Below.setCell ?_ (by first | (simp; done) | omega | (simp; omega)) _ | refine Below.alloc ?_ (by first | (simp; done) | omega | (simp; omega)) _ | refine below_drewN ?_ _ | refine Below.drew ?_)), by simp, by simp, by simp⟩
      | exact k1_call (by assumption) hb)
    (first
      | (go_at_call 141; (with_reducible refine (extension_any A a c s w _ h1 ha (HA.out.below (k1_bel (by assumption)))).mono ?_); rintro e wz ⟨rfl, hb⟩; have hz9 := hb.size; (try simp at hz9))
      | (go_at_call 106; (with_reducible refine (window_any A a c n 0 _ _ ha hn (by omega) (by omega) (HA.out.below (k1_bel (by assumption)))).mono ?_); rintro e wz ⟨A2, c2, rfl, hc1, hc2, ho, hb⟩))
  go_wp2
  go_ret
  rw [← HX.out]
  exact ⟨A2, c2, rfl, hc1, hc2, ho.base (by omega), k1_bel (by assumption)⟩
end
section
open Go.RowKit
set_option maxRecDepth 100000
set_option linter.unusedSimpArgs false
set_option linter.unusedVariables false
/-- Two rows of the call's own are two. -/
def Sep (P Q : Option Addr) : Prop := ∀ g h, P = some ⟨g, 0, none⟩ → Q = some ⟨h, 0, none⟩ → g ≠ h
/-- What balance answers. -/
def RetB (a b : Vc) (w : World) (e : Ending) (w' : World) : Prop :=
  ∃ p P c q Q d, Hid (p = blA a b) ∧ Hid (q = blB a b) ∧ e = .returned (.tuple #[.slice P p.length c, .slice Q q.length d, .bool (sg a b)]) ∧ Hid (p.length ≤ c ∧ c ≤ maxLen) ∧ Hid (q.length ≤ d ∧ d ≤ maxLen) ∧ Hid (OwQ w.heap.size w' P p) ∧ Hid (OwQ w.heap.size w' Q q) ∧ Hid (Sep P Q) ∧ Below w.heap.size w w'
theorem RG.lower {B0 B1 B2 : Nat} {w : World} {A : Option Addr} {l : List Int} (h : RG B0 B1 w A l) (h2 : B2 ≤ B1) : RG B0 B2 w A l := fun hn => by
  obtain ⟨ad, e, hl, hg, hc⟩ := h hn
  exact ⟨ad, e, hl, by omega, hc⟩
set_option maxHeartbeats 2000000 in
theorem balance_any (A B : Option Addr) (a b : List Int) (c d : Nat) (s t : Bool) (w : World) (ha : a.length ≤ 4096) (hb : b.length ≤ 4096) (hca : Hid (a.length ≤ c ∧ c ≤ maxLen)) (hcb : Hid (b.length ≤ d ∧ d ≤ maxLen)) (hA : RQ w A a) (hB : RQ w B b) (ya : By a) (yb : By b) :
    Calls Tryz.prog 164 #[.agg #[.slice A a.length c, .bool s], .agg #[.slice B b.length d, .bool t]] w (RetB ⟨a, s⟩ ⟨b, t⟩ w) := by
  have HA := hide hA
  have HBB := hide hB
  have LA := hide ha
  have LB := hide hb
  clear hA hB ha hb
  go_enter Tryz.func164, Tryz.ntmps164
  go_wp2_with fail
  obtain ⟨W1, hW1⟩ : ∃ x, x = ((w.alloc (Obj.cells #[Value.slice A a.length c, Value.bool s] 24)).alloc (Obj.cells #[Value.slice B b.length d, Value.bool t] 24)) := ⟨_, rfl⟩
  rw [← hW1]
  have hBW1 : Below w.heap.size w W1 := by rw [hW1]; exact belo
  have qW1_0 : W1.cell? ⟨w.heap.size, 0, none⟩ = some (Value.slice A a.length c) := by rw [hW1]; simp [go_sem]
  have fW1_0 : W1.frozen? ⟨w.heap.size, 0, none⟩ = false := by rw [hW1]; simp [go_sem]
  have qW1_1 : W1.cell? ⟨w.heap.size, 1, none⟩ = some (Value.bool s) := by rw [hW1]; simp [go_sem]
  have fW1_1 : W1.frozen? ⟨w.heap.size, 1, none⟩ = false := by rw [hW1]; simp [go_sem]
  have qW1_2 : W1.cell? ⟨w.heap.size + 1, 0, none⟩ = some (Value.slice B b.length d) := by rw [hW1]; simp [go_sem]
  have fW1_2 : W1.frozen? ⟨w.heap.size + 1, 0, none⟩ = false := by rw [hW1]; simp [go_sem]
  have qW1_3 : W1.cell? ⟨w.heap.size + 1, 1, none⟩ = some (Value.bool t) := by rw [hW1]; simp [go_sem]
  have fW1_3 : W1.frozen? ⟨w.heap.size + 1, 1, none⟩ = false := by rw [hW1]; simp [go_sem]
  have zW1_0 : w.heap.size < W1.heap.size := by rw [hW1]; first | (simp; done) | (simp; omega)
  have zW1_1 : w.heap.size + 1 < W1.heap.size := by rw [hW1]; first | (simp; done) | (simp; omega)
  clear hW1
  refine region_anyT (S := fun wS => Below W1.heap.size W1 wS) (n := 4) (by kernel_rfl) (Below.refl _ _).drew (fun hS inv => ?_)
  refine anyT_take (i := 0) (oi := _) (v := Value.agg #[Value.slice A a.length c, Value.bool s]) rfl (by kernel_rfl) (by kernel_rfl) (by kernel_rfl) (by decide) (by decide) (by kernel_rfl) (by kernel_rfl) inv (fun _ _ _ h => h) (Or.inl ⟨by kernel_rfl, ?_⟩) hS (fun inv => ?_)
  · intro wz hSw
    have hk0 := (hSw : Below _ _ _).cell (p := ⟨w.heap.size, 0, none⟩) (by first | assumption | (simp; done) | omega | (simp; omega)); have hk1 := (hSw : Below _ _ _).cell (p := ⟨w.heap.size, 1, none⟩) (by first | assumption | (simp; done) | omega | (simp; omega)); go_simp
  (try simp only [Act.put, List.getElem_toArray, List.getElem_cons_zero, List.getElem_cons_succ, List.setIfInBounds_toArray, List.set_cons_zero, List.set_cons_succ])
  refine anyT_take (i := 2) (oi := _) (v := Value.agg #[Value.slice B b.length d, Value.bool t]) rfl (by kernel_rfl) (by kernel_rfl) (by kernel_rfl) (by decide) (by decide) (by kernel_rfl) (by kernel_rfl) inv (fun _ _ _ h => h) (Or.inl ⟨by kernel_rfl, ?_⟩) hS (fun inv => ?_)
  · intro wz hSw
    have hk0 := (hSw : Below _ _ _).cell (p := ⟨w.heap.size + 1, 0, none⟩) (by first | assumption | (simp; done) | omega | (simp; omega)); have hk1 := (hSw : Below _ _ _).cell (p := ⟨w.heap.size + 1, 1, none⟩) (by first | assumption | (simp; done) | omega | (simp; omega)); go_simp
  (try simp only [Act.put, List.getElem_toArray, List.getElem_cons_zero, List.getElem_cons_succ, List.setIfInBounds_toArray, List.set_cons_zero, List.set_cons_succ])
  refine anyT_ready (rs := [1]) (by kernel_rfl) (by simp) ?_
  refine ReadyT.head (o := _) rfl (by decide) (by kernel_rfl) inv (fun K hK => ?_) ReadyT.nil
  go_simp
  refine (counted_any A a c s w _ LA.out hca HA.out belo).mono ?_
  rintro e D1 ⟨l1, s1, A1, c1, E1, rfl, C1, O1, hb⟩
  go_wp2_with fail
  refine hK.out _ _ ?_ (fun hS inv => ?_)
  · exact (hS : Below W1.heap.size W1 _).trans (hb.mono (Below.size hS))
  clear hK K
  (try simp only [Act.put, List.getElem_toArray, List.getElem_cons_zero, List.getElem_cons_succ, List.setIfInBounds_toArray, List.set_cons_zero, List.set_cons_succ])
  have hBD1 : Below w.heap.size w D1 := Below.trans belo (hb.mono (by first | omega | (simp; omega)))
  have hzD1 : W1.heap.size ≤ D1.heap.size := hb.size
  clear hb
  refine anyT_ready (rs := [3]) (by kernel_rfl) (by simp) ?_
  refine ReadyT.head (o := _) rfl (by decide) (by kernel_rfl) inv (fun K hK => ?_) ReadyT.nil
  go_simp
  refine (counted_any B b d t w _ LB.out hcb HBB.out belo).mono ?_
  rintro e D2 ⟨l2, s2, A2, c2, E2, rfl, C2, O2, hb⟩
  go_wp2_with fail
  refine hK.out _ _ ?_ (fun hS inv => ?_)
  · exact (hS : Below W1.heap.size W1 _).trans (hb.mono (Below.size hS))
  clear hK K
  (try simp only [Act.put, List.getElem_toArray, List.getElem_cons_zero, List.getElem_cons_succ, List.setIfInBounds_toArray, List.set_cons_zero, List.set_cons_succ])
  have hBD2 : Below w.heap.size w D2 := Below.trans belo (hb.mono (by first | omega | (simp; omega)))
  have hzD2 : D1.heap.size ≤ D2.heap.size := hb.size
  replace O1 := hide (O1.out.kept hb)
  obtain ⟨kcD, kfD⟩ := bcell (hS : Below W1.heap.size W1 D2)
  clear hb
  refine anyT_ready (rs := [4]) (by kernel_rfl) (by simp) ?_
  refine ReadyT.tail (o := _) rfl (by decide) (fun K hK => ?_)
  go_simp
  refine hK.out _ _ ?_
  clear hK K
  (try simp only [Act.put, List.getElem_toArray, List.getElem_cons_zero, List.getElem_cons_succ, List.setIfInBounds_toArray, List.set_cons_zero, List.set_cons_succ])
  refine anyT_ready (rs := [5]) (by kernel_rfl) (by simp) ?_
  refine ReadyT.tail (o := _) rfl (by decide) (fun K hK => ?_)
  go_simp
  refine hK.out _ _ ?_
  clear hK K
  (try simp only [Act.put, List.getElem_toArray, List.getElem_cons_zero, List.getElem_cons_succ, List.setIfInBounds_toArray, List.set_cons_zero, List.set_cons_succ])
  refine anyT_done (by kernel_rfl) ?_ _
  go_wp2_with fail
  · have hsg : sg ⟨a, s⟩ ⟨b, t⟩ = s2 := by unfold sg; rw [← E1.out, ← E2.out]; simp [*]
    have hwd : wd ⟨a, s⟩ ⟨b, t⟩ = l2.length := by unfold wd; rw [← E1.out, ← E2.out]; show max l1.length l2.length = _; omega
    have L1 : 0 < l1.length ∧ l1.length ≤ 128 := by have h := cnt_gd (v := ⟨a, s⟩) ya; rw [← E1.out] at h; exact ⟨h.pos, h.le⟩
    have L2 : 0 < l2.length ∧ l2.length ≤ 128 := by have h := cnt_gd (v := ⟨b, t⟩) yb; rw [← E2.out] at h; exact ⟨h.pos, h.le⟩
    have X1 := hide (show rsz ⟨l1, s2⟩ l2.length = blA ⟨a, s⟩ ⟨b, t⟩ by unfold blA; rw [hsg, hwd, ← E1.out])
    have X2 := hide (show rsz ⟨l2, s2⟩ l2.length = blB ⟨a, s⟩ ⟨b, t⟩ by unfold blB; rw [hsg, hwd, ← E2.out])
    have HSG := hide hsg
    clear hsg hwd
    replace O1 := hide (O1.out)
    have P1 : RG w.heap.size W1.heap.size D2 A1 l1 := O1.out
    have P2 : RG w.heap.size W1.heap.size D2 A2 l2 := RG.lower O2.out (by omega)
    obtain ⟨V, hV⟩ : ∃ x, x = ((((((D2.setCell ⟨w.heap.size, 0, none⟩ (Value.slice A1 l1.length c1)).setCell ⟨w.heap.size, 1, none⟩ (Value.bool true)).setCell ⟨w.heap.size + 1, 0, none⟩ (Value.slice A2 l2.length c2)).setCell ⟨w.heap.size + 1, 1, none⟩ (Value.bool s2)).setCell ⟨w.heap.size, 1, none⟩ (Value.bool s2)).setCell ⟨w.heap.size + 1, 1, none⟩ (Value.bool s2)) := ⟨_, rfl⟩
    rw [← hV]
    have Q1 := hide (show RG w.heap.size W1.heap.size V A1 l1 by rw [hV]; (repeat (first | with_reducible exact P1 | with_reducible refine RG.setc ?_ (by simp) (by simp; omega) _)))
    have Q2 := hide (show RG w.heap.size W1.heap.size V A2 l2 by rw [hV]; (repeat (first | with_reducible exact P2 | with_reducible refine RG.setc ?_ (by simp) (by simp; omega) _)))
    have hBV : Below w.heap.size w V := by rw [hV]; exact belo
    have q0 : V.cell? ⟨w.heap.size, 0, none⟩ = some (Value.slice A1 l1.length c1) := by rw [hV]; (repeat (first | with_reducible refine cset_eq' ?_ | with_reducible refine cset_ne (by simp) ?_ | with_reducible refine cset_ex ?_ | exact ⟨_, (kcD _ _ zW1_0).trans (by assumption)⟩ | exact ⟨_, (kcD _ _ zW1_1).trans (by assumption)⟩))
    have q1 : V.cell? ⟨w.heap.size, 1, none⟩ = some (Value.bool s2) := by rw [hV]; (repeat (first | with_reducible refine cset_eq' ?_ | with_reducible refine cset_ne (by simp) ?_ | with_reducible refine cset_ex ?_ | exact ⟨_, (kcD _ _ zW1_0).trans (by assumption)⟩ | exact ⟨_, (kcD _ _ zW1_1).trans (by assumption)⟩))
    have q2 : V.cell? ⟨w.heap.size + 1, 0, none⟩ = some (Value.slice A2 l2.length c2) := by rw [hV]; (repeat (first | with_reducible refine cset_eq' ?_ | with_reducible refine cset_ne (by simp) ?_ | with_reducible refine cset_ex ?_ | exact ⟨_, (kcD _ _ zW1_0).trans (by assumption)⟩ | exact ⟨_, (kcD _ _ zW1_1).trans (by assumption)⟩))
    have q3 : V.cell? ⟨w.heap.size + 1, 1, none⟩ = some (Value.bool s2) := by rw [hV]; (repeat (first | with_reducible refine cset_eq' ?_ | with_reducible refine cset_ne (by simp) ?_ | with_reducible refine cset_ex ?_ | exact ⟨_, (kcD _ _ zW1_0).trans (by assumption)⟩ | exact ⟨_, (kcD _ _ zW1_1).trans (by assumption)⟩))
    have z0 : w.heap.size < V.heap.size := by rw [hV]; simp; omega
    have z1 : w.heap.size + 1 < V.heap.size := by rw [hV]; simp; omega
    clear hV P1 P2 kcD kfD
    refine region_anyT (S := fun wS => Below V.heap.size V wS) (n := 9) (by kernel_rfl) (Below.refl _ _).drew (fun hS inv => ?_)
    refine anyT_take (i := 0) (oi := _) (v := Value.agg #[Value.slice A1 l1.length c1, Value.bool s2]) rfl (by kernel_rfl) (by kernel_rfl) (by kernel_rfl) (by decide) (by decide) (by kernel_rfl) (by kernel_rfl) inv (fun _ _ _ h => h) (Or.inl ⟨by kernel_rfl, ?_⟩) hS (fun inv => ?_)
    · intro wz hSw
      have hk0 := (hSw : Below _ _ _).cell (p := ⟨w.heap.size, 0, none⟩) (by first | assumption | (simp; done) | omega | (simp; omega)); have hk1 := (hSw : Below _ _ _).cell (p := ⟨w.heap.size, 1, none⟩) (by first | assumption | (simp; done) | omega | (simp; omega)); go_simp
    (try simp only [Act.put, List.getElem_toArray, List.getElem_cons_zero, List.getElem_cons_succ, List.setIfInBounds_toArray, List.set_cons_zero, List.set_cons_succ])
    refine anyT_take (i := 1) (oi := _) (v := Value.int IntKind.i64 ↑l2.length) rfl (by kernel_rfl) (by kernel_rfl) (by kernel_rfl) (by decide) (by decide) (by kernel_rfl) (by kernel_rfl) inv (fun _ _ _ h => h) (Or.inl ⟨by kernel_rfl, ?_⟩) hS (fun inv => ?_)
    · intro wz hSw
      first | kernel_rfl | go_simp
    (try simp only [Act.put, List.getElem_toArray, List.getElem_cons_zero, List.getElem_cons_succ, List.setIfInBounds_toArray, List.set_cons_zero, List.set_cons_succ])
    refine anyT_take (i := 3) (oi := _) (v := Value.agg #[Value.slice A2 l2.length c2, Value.bool s2]) rfl (by kernel_rfl) (by kernel_rfl) (by kernel_rfl) (by decide) (by decide) (by kernel_rfl) (by kernel_rfl) inv (fun _ _ _ h => h) (Or.inl ⟨by kernel_rfl, ?_⟩) hS (fun inv => ?_)
    · intro wz hSw
      have hk0 := (hSw : Below _ _ _).cell (p := ⟨w.heap.size + 1, 0, none⟩) (by first | assumption | (simp; done) | omega | (simp; omega)); have hk1 := (hSw : Below _ _ _).cell (p := ⟨w.heap.size + 1, 1, none⟩) (by first | assumption | (simp; done) | omega | (simp; omega)); go_simp
    (try simp only [Act.put, List.getElem_toArray, List.getElem_cons_zero, List.getElem_cons_succ, List.setIfInBounds_toArray, List.set_cons_zero, List.set_cons_succ])
    refine anyT_take (i := 4) (oi := _) (v := Value.int IntKind.i64 ↑l2.length) rfl (by kernel_rfl) (by kernel_rfl) (by kernel_rfl) (by decide) (by decide) (by kernel_rfl) (by kernel_rfl) inv (fun _ _ _ h => h) (Or.inl ⟨by kernel_rfl, ?_⟩) hS (fun inv => ?_)
    · intro wz hSw
      first | kernel_rfl | go_simp
    (try simp only [Act.put, List.getElem_toArray, List.getElem_cons_zero, List.getElem_cons_succ, List.setIfInBounds_toArray, List.set_cons_zero, List.set_cons_succ])
    refine anyT_take (i := 6) (oi := _) (v := Value.bool s2) rfl (by kernel_rfl) (by kernel_rfl) (by kernel_rfl) (by decide) (by decide) (by kernel_rfl) (by kernel_rfl) inv (fun _ _ _ h => h) (Or.inl ⟨by kernel_rfl, ?_⟩) hS (fun inv => ?_)
    · intro wz hSw
      first | kernel_rfl | go_simp
    (try simp only [Act.put, List.getElem_toArray, List.getElem_cons_zero, List.getElem_cons_succ, List.setIfInBounds_toArray, List.set_cons_zero, List.set_cons_succ])
    refine anyT_ready (rs := [2]) (by kernel_rfl) (by simp) ?_
    refine ReadyT.head (o := _) rfl (by decide) (by kernel_rfl) inv (fun K hK => ?_) ReadyT.nil
    go_simp
    refine (resized_any A1 l1 c1 l2.length s2 _ L1.1 (by omega) (by omega) (Q1.out.drew.rd)).mono ?_
    rintro e G1 ⟨P1, d1, rfl, e1, g1, o1, hb⟩
    go_wp2_with fail
    refine hK.out _ _ ?_ (fun hS inv => ?_)
    · exact (hS : Below V.heap.size V _).trans (hb.mono (Below.size hS))
    clear hK K
    (try simp only [Act.put, List.getElem_toArray, List.getElem_cons_zero, List.getElem_cons_succ, List.setIfInBounds_toArray, List.set_cons_zero, List.set_cons_succ])
    have hBG1 : Below w.heap.size w G1 := Below.trans belo (hb.mono (by first | omega | (simp; omega)))
    have hzG1 : V.heap.size ≤ G1.heap.size := hb.size
    replace Q2 := hide (Q2.out.drew.kept hb)
    clear hb
    refine anyT_ready (rs := [5]) (by kernel_rfl) (by simp) ?_
    refine ReadyT.head (o := _) rfl (by decide) (by kernel_rfl) inv (fun K hK => ?_) ReadyT.nil
    go_simp
    refine (resized_any A2 l2 c2 l2.length s2 _ L2.1 (by omega) (by omega) (Q2.out.rd)).mono ?_
    rintro e G2 ⟨P2, d2, rfl, e2, g2, o2, hb⟩
    go_wp2_with fail
    refine hK.out _ _ ?_ (fun hS inv => ?_)
    · exact (hS : Below V.heap.size V _).trans (hb.mono (Below.size hS))
    clear hK K
    (try simp only [Act.put, List.getElem_toArray, List.getElem_cons_zero, List.getElem_cons_succ, List.setIfInBounds_toArray, List.set_cons_zero, List.set_cons_succ])
    have hBG2 : Below w.heap.size w G2 := Below.trans belo (hb.mono (by first | omega | (simp; omega)))
    have hzG2 : G1.heap.size ≤ G2.heap.size := hb.size
    have HS : Hid (Sep P1 P2) := hide fun g h e1 e2 => by
      obtain ⟨g1, x1, _, x2⟩ := o1.lt (by rw [rsz_length]; omega)
      obtain ⟨g2, y1, y2, _⟩ := o2.lt (by rw [rsz_length]; omega)
      have := x1.symm.trans e1; have := y1.symm.trans e2; simp only [Option.some.injEq, Addr.mk.injEq] at *; omega
    replace o1 := hide (OwQ.kept o1 hb)
    clear hb
    refine anyT_take (i := 7) (oi := _) (v := Value.slice P1 (rsz ⟨l1, s2⟩ l2.length).length d1) rfl (by kernel_rfl) (by kernel_rfl) (by kernel_rfl) (by decide) (by decide) (by kernel_rfl) (by kernel_rfl) inv (fun _ _ _ h => h) (Or.inl ⟨by kernel_rfl, ?_⟩) hS (fun inv => ?_)
    · intro wz hSw
      first | kernel_rfl | go_simp
    (try simp only [Act.put, List.getElem_toArray, List.getElem_cons_zero, List.getElem_cons_succ, List.setIfInBounds_toArray, List.set_cons_zero, List.set_cons_succ])
    refine anyT_take (i := 8) (oi := _) (v := Value.slice P2 (rsz ⟨l2, s2⟩ l2.length).length d2) rfl (by kernel_rfl) (by kernel_rfl) (by kernel_rfl) (by decide) (by decide) (by kernel_rfl) (by kernel_rfl) inv (fun _ _ _ h => h) (Or.inl ⟨by kernel_rfl, ?_⟩) hS (fun inv => ?_)
    · intro wz hSw
      first | kernel_rfl | go_simp
    (try simp only [Act.put, List.getElem_toArray, List.getElem_cons_zero, List.getElem_cons_succ, List.setIfInBounds_toArray, List.set_cons_zero, List.set_cons_succ])
    refine anyT_ready (rs := [9]) (by kernel_rfl) (by simp) ?_
    refine ReadyT.tail (o := _) rfl (by decide) (fun K hK => ?_)
    go_simp
    refine hK.out _ _ ?_
    clear hK K
    (try simp only [Act.put, List.getElem_toArray, List.getElem_cons_zero, List.getElem_cons_succ, List.setIfInBounds_toArray, List.set_cons_zero, List.set_cons_succ])
    refine anyT_done (by kernel_rfl) ?_ _
    go_wp2
    go_ret3
    exact ⟨rsz ⟨l1, s2⟩ l2.length, P1, d1, rsz ⟨l2, s2⟩ l2.length, P2, d2, X1, X2, by rw [HSG.out]; rfl, hide ⟨e1, g1⟩, hide ⟨e2, g2⟩, hide (o1.out.base (Nat.le_of_lt (show w.heap.size < V.drew.heap.size from z0))), hide (o2.base (by omega)), HS, hBG2⟩
  · have hsg : sg ⟨a, s⟩ ⟨b, t⟩ = s2 := by unfold sg; rw [← E1.out, ← E2.out]; simp [*]
    have hwd : wd ⟨a, s⟩ ⟨b, t⟩ = l1.length := by unfold wd; rw [← E1.out, ← E2.out]; show max l1.length l2.length = _; omega
    have L1 : 0 < l1.length ∧ l1.length ≤ 128 := by have h := cnt_gd (v := ⟨a, s⟩) ya; rw [← E1.out] at h; exact ⟨h.pos, h.le⟩
    have L2 : 0 < l2.length ∧ l2.length ≤ 128 := by have h := cnt_gd (v := ⟨b, t⟩) yb; rw [← E2.out] at h; exact ⟨h.pos, h.le⟩
    have X1 := hide (show rsz ⟨l1, s2⟩ l1.length = blA ⟨a, s⟩ ⟨b, t⟩ by unfold blA; rw [hsg, hwd, ← E1.out])
    have X2 := hide (show rsz ⟨l2, s2⟩ l1.length = blB ⟨a, s⟩ ⟨b, t⟩ by unfold blB; rw [hsg, hwd, ← E2.out])
    have HSG := hide hsg
    clear hsg hwd
    replace O1 := hide (O1.out)
    have P1 : RG w.heap.size W1.heap.size D2 A1 l1 := O1.out
    have P2 : RG w.heap.size W1.heap.size D2 A2 l2 := RG.lower O2.out (by omega)
    obtain ⟨V, hV⟩ : ∃ x, x = ((((((D2.setCell ⟨w.heap.size, 0, none⟩ (Value.slice A1 l1.length c1)).setCell ⟨w.heap.size, 1, none⟩ (Value.bool true)).setCell ⟨w.heap.size + 1, 0, none⟩ (Value.slice A2 l2.length c2)).setCell ⟨w.heap.size + 1, 1, none⟩ (Value.bool s2)).setCell ⟨w.heap.size, 1, none⟩ (Value.bool s2)).setCell ⟨w.heap.size + 1, 1, none⟩ (Value.bool s2)) := ⟨_, rfl⟩
    rw [← hV]
    have Q1 := hide (show RG w.heap.size W1.heap.size V A1 l1 by rw [hV]; (repeat (first | with_reducible exact P1 | with_reducible refine RG.setc ?_ (by simp) (by simp; omega) _)))
    have Q2 := hide (show RG w.heap.size W1.heap.size V A2 l2 by rw [hV]; (repeat (first | with_reducible exact P2 | with_reducible refine RG.setc ?_ (by simp) (by simp; omega) _)))
    have hBV : Below w.heap.size w V := by rw [hV]; exact belo
    have q0 : V.cell? ⟨w.heap.size, 0, none⟩ = some (Value.slice A1 l1.length c1) := by rw [hV]; (repeat (first | with_reducible refine cset_eq' ?_ | with_reducible refine cset_ne (by simp) ?_ | with_reducible refine cset_ex ?_ | exact ⟨_, (kcD _ _ zW1_0).trans (by assumption)⟩ | exact ⟨_, (kcD _ _ zW1_1).trans (by assumption)⟩))
    have q1 : V.cell? ⟨w.heap.size, 1, none⟩ = some (Value.bool s2) := by rw [hV]; (repeat (first | with_reducible refine cset_eq' ?_ | with_reducible refine cset_ne (by simp) ?_ | with_reducible refine cset_ex ?_ | exact ⟨_, (kcD _ _ zW1_0).trans (by assumption)⟩ | exact ⟨_, (kcD _ _ zW1_1).trans (by assumption)⟩))
    have q2 : V.cell? ⟨w.heap.size + 1, 0, none⟩ = some (Value.slice A2 l2.length c2) := by rw [hV]; (repeat (first | with_reducible refine cset_eq' ?_ | with_reducible refine cset_ne (by simp) ?_ | with_reducible refine cset_ex ?_ | exact ⟨_, (kcD _ _ zW1_0).trans (by assumption)⟩ | exact ⟨_, (kcD _ _ zW1_1).trans (by assumption)⟩))
    have q3 : V.cell? ⟨w.heap.size + 1, 1, none⟩ = some (Value.bool s2) := by rw [hV]; (repeat (first | with_reducible refine cset_eq' ?_ | with_reducible refine cset_ne (by simp) ?_ | with_reducible refine cset_ex ?_ | exact ⟨_, (kcD _ _ zW1_0).trans (by assumption)⟩ | exact ⟨_, (kcD _ _ zW1_1).trans (by assumption)⟩))
    have z0 : w.heap.size < V.heap.size := by rw [hV]; simp; omega
    have z1 : w.heap.size + 1 < V.heap.size := by rw [hV]; simp; omega
    clear hV P1 P2 kcD kfD
    refine region_anyT (S := fun wS => Below V.heap.size V wS) (n := 9) (by kernel_rfl) (Below.refl _ _).drew (fun hS inv => ?_)
    refine anyT_take (i := 0) (oi := _) (v := Value.agg #[Value.slice A1 l1.length c1, Value.bool s2]) rfl (by kernel_rfl) (by kernel_rfl) (by kernel_rfl) (by decide) (by decide) (by kernel_rfl) (by kernel_rfl) inv (fun _ _ _ h => h) (Or.inl ⟨by kernel_rfl, ?_⟩) hS (fun inv => ?_)
    · intro wz hSw
      have hk0 := (hSw : Below _ _ _).cell (p := ⟨w.heap.size, 0, none⟩) (by first | assumption | (simp; done) | omega | (simp; omega)); have hk1 := (hSw : Below _ _ _).cell (p := ⟨w.heap.size, 1, none⟩) (by first | assumption | (simp; done) | omega | (simp; omega)); go_simp
    (try simp only [Act.put, List.getElem_toArray, List.getElem_cons_zero, List.getElem_cons_succ, List.setIfInBounds_toArray, List.set_cons_zero, List.set_cons_succ])
    refine anyT_take (i := 1) (oi := _) (v := Value.int IntKind.i64 ↑l1.length) rfl (by kernel_rfl) (by kernel_rfl) (by kernel_rfl) (by decide) (by decide) (by kernel_rfl) (by kernel_rfl) inv (fun _ _ _ h => h) (Or.inl ⟨by kernel_rfl, ?_⟩) hS (fun inv => ?_)
    · intro wz hSw
      first | kernel_rfl | go_simp
    (try simp only [Act.put, List.getElem_toArray, List.getElem_cons_zero, List.getElem_cons_succ, List.setIfInBounds_toArray, List.set_cons_zero, List.set_cons_succ])
    refine anyT_take (i := 3) (oi := _) (v := Value.agg #[Value.slice A2 l2.length c2, Value.bool s2]) rfl (by kernel_rfl) (by kernel_rfl) (by kernel_rfl) (by decide) (by decide) (by kernel_rfl) (by kernel_rfl) inv (fun _ _ _ h => h) (Or.inl ⟨by kernel_rfl, ?_⟩) hS (fun inv => ?_)
    · intro wz hSw
      have hk0 := (hSw : Below _ _ _).cell (p := ⟨w.heap.size + 1, 0, none⟩) (by first | assumption | (simp; done) | omega | (simp; omega)); have hk1 := (hSw : Below _ _ _).cell (p := ⟨w.heap.size + 1, 1, none⟩) (by first | assumption | (simp; done) | omega | (simp; omega)); go_simp
    (try simp only [Act.put, List.getElem_toArray, List.getElem_cons_zero, List.getElem_cons_succ, List.setIfInBounds_toArray, List.set_cons_zero, List.set_cons_succ])
    refine anyT_take (i := 4) (oi := _) (v := Value.int IntKind.i64 ↑l1.length) rfl (by kernel_rfl) (by kernel_rfl) (by kernel_rfl) (by decide) (by decide) (by kernel_rfl) (by kernel_rfl) inv (fun _ _ _ h => h) (Or.inl ⟨by kernel_rfl, ?_⟩) hS (fun inv => ?_)
    · intro wz hSw
      first | kernel_rfl | go_simp
    (try simp only [Act.put, List.getElem_toArray, List.getElem_cons_zero, List.getElem_cons_succ, List.setIfInBounds_toArray, List.set_cons_zero, List.set_cons_succ])
    refine anyT_take (i := 6) (oi := _) (v := Value.bool s2) rfl (by kernel_rfl) (by kernel_rfl) (by kernel_rfl) (by decide) (by decide) (by kernel_rfl) (by kernel_rfl) inv (fun _ _ _ h => h) (Or.inl ⟨by kernel_rfl, ?_⟩) hS (fun inv => ?_)
    · intro wz hSw
      first | kernel_rfl | go_simp
    (try simp only [Act.put, List.getElem_toArray, List.getElem_cons_zero, List.getElem_cons_succ, List.setIfInBounds_toArray, List.set_cons_zero, List.set_cons_succ])
    refine anyT_ready (rs := [2]) (by kernel_rfl) (by simp) ?_
    refine ReadyT.head (o := _) rfl (by decide) (by kernel_rfl) inv (fun K hK => ?_) ReadyT.nil
    go_simp
    refine (resized_any A1 l1 c1 l1.length s2 _ L1.1 (by omega) (by omega) (Q1.out.drew.rd)).mono ?_
    rintro e G1 ⟨P1, d1, rfl, e1, g1, o1, hb⟩
    go_wp2_with fail
    refine hK.out _ _ ?_ (fun hS inv => ?_)
    · exact (hS : Below V.heap.size V _).trans (hb.mono (Below.size hS))
    clear hK K
    (try simp only [Act.put, List.getElem_toArray, List.getElem_cons_zero, List.getElem_cons_succ, List.setIfInBounds_toArray, List.set_cons_zero, List.set_cons_succ])
    have hBG1 : Below w.heap.size w G1 := Below.trans belo (hb.mono (by first | omega | (simp; omega)))
    have hzG1 : V.heap.size ≤ G1.heap.size := hb.size
    replace Q2 := hide (Q2.out.drew.kept hb)
    clear hb
    refine anyT_ready (rs := [5]) (by kernel_rfl) (by simp) ?_
    refine ReadyT.head (o := _) rfl (by decide) (by kernel_rfl) inv (fun K hK => ?_) ReadyT.nil
    go_simp
    refine (resized_any A2 l2 c2 l1.length s2 _ L2.1 (by omega) (by omega) (Q2.out.rd)).mono ?_
    rintro e G2 ⟨P2, d2, rfl, e2, g2, o2, hb⟩
    go_wp2_with fail
    refine hK.out _ _ ?_ (fun hS inv => ?_)
    · exact (hS : Below V.heap.size V _).trans (hb.mono (Below.size hS))
    clear hK K
    (try simp only [Act.put, List.getElem_toArray, List.getElem_cons_zero, List.getElem_cons_succ, List.setIfInBounds_toArray, List.set_cons_zero, List.set_cons_succ])
    have hBG2 : Below w.heap.size w G2 := Below.trans belo (hb.mono (by first | omega | (simp; omega)))
    have hzG2 : G1.heap.size ≤ G2.heap.size := hb.size
    have HS : Hid (Sep P1 P2) := hide fun g h e1 e2 => by
      obtain ⟨g1, x1, _, x2⟩ := o1.lt (by rw [rsz_length]; omega)
      obtain ⟨g2, y1, y2, _⟩ := o2.lt (by rw [rsz_length]; omega)
      have := x1.symm.trans e1; have := y1.symm.trans e2; simp only [Option.some.injEq, Addr.mk.injEq] at *; omega
    replace o1 := hide (OwQ.kept o1 hb)
    clear hb
    refine anyT_take (i := 7) (oi := _) (v := Value.slice P1 (rsz ⟨l1, s2⟩ l1.length).length d1) rfl (by kernel_rfl) (by kernel_rfl) (by kernel_rfl) (by decide) (by decide) (by kernel_rfl) (by kernel_rfl) inv (fun _ _ _ h => h) (Or.inl ⟨by kernel_rfl, ?_⟩) hS (fun inv => ?_)
    · intro wz hSw
      first | kernel_rfl | go_simp
    (try simp only [Act.put, List.getElem_toArray, List.getElem_cons_zero, List.getElem_cons_succ, List.setIfInBounds_toArray, List.set_cons_zero, List.set_cons_succ])
    refine anyT_take (i := 8) (oi := _) (v := Value.slice P2 (rsz ⟨l2, s2⟩ l1.length).length d2) rfl (by kernel_rfl) (by kernel_rfl) (by kernel_rfl) (by decide) (by decide) (by kernel_rfl) (by kernel_rfl) inv (fun _ _ _ h => h) (Or.inl ⟨by kernel_rfl, ?_⟩) hS (fun inv => ?_)
    · intro wz hSw
      first | kernel_rfl | go_simp
    (try simp only [Act.put, List.getElem_toArray, List.getElem_cons_zero, List.getElem_cons_succ, List.setIfInBounds_toArray, List.set_cons_zero, List.set_cons_succ])
    refine anyT_ready (rs := [9]) (by kernel_rfl) (by simp) ?_
    refine ReadyT.tail (o := _) rfl (by decide) (fun K hK => ?_)
    go_simp
    refine hK.out _ _ ?_
    clear hK K
    (try simp only [Act.put, List.getElem_toArray, List.getElem_cons_zero, List.getElem_cons_succ, List.setIfInBounds_toArray, List.set_cons_zero, List.set_cons_succ])
    refine anyT_done (by kernel_rfl) ?_ _
    go_wp2
    go_ret3
    exact ⟨rsz ⟨l1, s2⟩ l1.length, P1, d1, rsz ⟨l2, s2⟩ l1.length, P2, d2, X1, X2, by rw [HSG.out]; rfl, hide ⟨e1, g1⟩, hide ⟨e2, g2⟩, hide (o1.out.base (Nat.le_of_lt (show w.heap.size < V.drew.heap.size from z0))), hide (o2.base (by omega)), HS, hBG2⟩
  · have hsg : sg ⟨a, s⟩ ⟨b, t⟩ = false := by unfold sg; rw [← E1.out, ← E2.out]; simp [*]
    have hwd : wd ⟨a, s⟩ ⟨b, t⟩ = l2.length := by unfold wd; rw [← E1.out, ← E2.out]; show max l1.length l2.length = _; omega
    have L1 : 0 < l1.length ∧ l1.length ≤ 128 := by have h := cnt_gd (v := ⟨a, s⟩) ya; rw [← E1.out] at h; exact ⟨h.pos, h.le⟩
    have L2 : 0 < l2.length ∧ l2.length ≤ 128 := by have h := cnt_gd (v := ⟨b, t⟩) yb; rw [← E2.out] at h; exact ⟨h.pos, h.le⟩
    have X1 := hide (show rsz ⟨l1, false⟩ l2.length = blA ⟨a, s⟩ ⟨b, t⟩ by unfold blA; rw [hsg, hwd, ← E1.out])
    have X2 := hide (show rsz ⟨l2, false⟩ l2.length = blB ⟨a, s⟩ ⟨b, t⟩ by unfold blB; rw [hsg, hwd, ← E2.out])
    have HSG := hide hsg
    clear hsg hwd
    replace O1 := hide (O1.out)
    have P1 : RG w.heap.size W1.heap.size D2 A1 l1 := O1.out
    have P2 : RG w.heap.size W1.heap.size D2 A2 l2 := RG.lower O2.out (by omega)
    obtain ⟨V, hV⟩ : ∃ x, x = ((((((D2.setCell ⟨w.heap.size, 0, none⟩ (Value.slice A1 l1.length c1)).setCell ⟨w.heap.size, 1, none⟩ (Value.bool false)).setCell ⟨w.heap.size + 1, 0, none⟩ (Value.slice A2 l2.length c2)).setCell ⟨w.heap.size + 1, 1, none⟩ (Value.bool s2)).setCell ⟨w.heap.size, 1, none⟩ (Value.bool false)).setCell ⟨w.heap.size + 1, 1, none⟩ (Value.bool false)) := ⟨_, rfl⟩
    rw [← hV]
    have Q1 := hide (show RG w.heap.size W1.heap.size V A1 l1 by rw [hV]; (repeat (first | with_reducible exact P1 | with_reducible refine RG.setc ?_ (by simp) (by simp; omega) _)))
    have Q2 := hide (show RG w.heap.size W1.heap.size V A2 l2 by rw [hV]; (repeat (first | with_reducible exact P2 | with_reducible refine RG.setc ?_ (by simp) (by simp; omega) _)))
    have hBV : Below w.heap.size w V := by rw [hV]; exact belo
    have q0 : V.cell? ⟨w.heap.size, 0, none⟩ = some (Value.slice A1 l1.length c1) := by rw [hV]; (repeat (first | with_reducible refine cset_eq' ?_ | with_reducible refine cset_ne (by simp) ?_ | with_reducible refine cset_ex ?_ | exact ⟨_, (kcD _ _ zW1_0).trans (by assumption)⟩ | exact ⟨_, (kcD _ _ zW1_1).trans (by assumption)⟩))
    have q1 : V.cell? ⟨w.heap.size, 1, none⟩ = some (Value.bool false) := by rw [hV]; (repeat (first | with_reducible refine cset_eq' ?_ | with_reducible refine cset_ne (by simp) ?_ | with_reducible refine cset_ex ?_ | exact ⟨_, (kcD _ _ zW1_0).trans (by assumption)⟩ | exact ⟨_, (kcD _ _ zW1_1).trans (by assumption)⟩))
    have q2 : V.cell? ⟨w.heap.size + 1, 0, none⟩ = some (Value.slice A2 l2.length c2) := by rw [hV]; (repeat (first | with_reducible refine cset_eq' ?_ | with_reducible refine cset_ne (by simp) ?_ | with_reducible refine cset_ex ?_ | exact ⟨_, (kcD _ _ zW1_0).trans (by assumption)⟩ | exact ⟨_, (kcD _ _ zW1_1).trans (by assumption)⟩))
    have q3 : V.cell? ⟨w.heap.size + 1, 1, none⟩ = some (Value.bool false) := by rw [hV]; (repeat (first | with_reducible refine cset_eq' ?_ | with_reducible refine cset_ne (by simp) ?_ | with_reducible refine cset_ex ?_ | exact ⟨_, (kcD _ _ zW1_0).trans (by assumption)⟩ | exact ⟨_, (kcD _ _ zW1_1).trans (by assumption)⟩))
    have z0 : w.heap.size < V.heap.size := by rw [hV]; simp; omega
    have z1 : w.heap.size + 1 < V.heap.size := by rw [hV]; simp; omega
    clear hV P1 P2 kcD kfD
    refine region_anyT (S := fun wS => Below V.heap.size V wS) (n := 9) (by kernel_rfl) (Below.refl _ _).drew (fun hS inv => ?_)
    refine anyT_take (i := 0) (oi := _) (v := Value.agg #[Value.slice A1 l1.length c1, Value.bool false]) rfl (by kernel_rfl) (by kernel_rfl) (by kernel_rfl) (by decide) (by decide) (by kernel_rfl) (by kernel_rfl) inv (fun _ _ _ h => h) (Or.inl ⟨by kernel_rfl, ?_⟩) hS (fun inv => ?_)
    · intro wz hSw
      have hk0 := (hSw : Below _ _ _).cell (p := ⟨w.heap.size, 0, none⟩) (by first | assumption | (simp; done) | omega | (simp; omega)); have hk1 := (hSw : Below _ _ _).cell (p := ⟨w.heap.size, 1, none⟩) (by first | assumption | (simp; done) | omega | (simp; omega)); go_simp
    (try simp only [Act.put, List.getElem_toArray, List.getElem_cons_zero, List.getElem_cons_succ, List.setIfInBounds_toArray, List.set_cons_zero, List.set_cons_succ])
    refine anyT_take (i := 1) (oi := _) (v := Value.int IntKind.i64 ↑l2.length) rfl (by kernel_rfl) (by kernel_rfl) (by kernel_rfl) (by decide) (by decide) (by kernel_rfl) (by kernel_rfl) inv (fun _ _ _ h => h) (Or.inl ⟨by kernel_rfl, ?_⟩) hS (fun inv => ?_)
    · intro wz hSw
      first | kernel_rfl | go_simp
    (try simp only [Act.put, List.getElem_toArray, List.getElem_cons_zero, List.getElem_cons_succ, List.setIfInBounds_toArray, List.set_cons_zero, List.set_cons_succ])
    refine anyT_take (i := 3) (oi := _) (v := Value.agg #[Value.slice A2 l2.length c2, Value.bool false]) rfl (by kernel_rfl) (by kernel_rfl) (by kernel_rfl) (by decide) (by decide) (by kernel_rfl) (by kernel_rfl) inv (fun _ _ _ h => h) (Or.inl ⟨by kernel_rfl, ?_⟩) hS (fun inv => ?_)
    · intro wz hSw
      have hk0 := (hSw : Below _ _ _).cell (p := ⟨w.heap.size + 1, 0, none⟩) (by first | assumption | (simp; done) | omega | (simp; omega)); have hk1 := (hSw : Below _ _ _).cell (p := ⟨w.heap.size + 1, 1, none⟩) (by first | assumption | (simp; done) | omega | (simp; omega)); go_simp
    (try simp only [Act.put, List.getElem_toArray, List.getElem_cons_zero, List.getElem_cons_succ, List.setIfInBounds_toArray, List.set_cons_zero, List.set_cons_succ])
    refine anyT_take (i := 4) (oi := _) (v := Value.int IntKind.i64 ↑l2.length) rfl (by kernel_rfl) (by kernel_rfl) (by kernel_rfl) (by decide) (by decide) (by kernel_rfl) (by kernel_rfl) inv (fun _ _ _ h => h) (Or.inl ⟨by kernel_rfl, ?_⟩) hS (fun inv => ?_)
    · intro wz hSw
      first | kernel_rfl | go_simp
    (try simp only [Act.put, List.getElem_toArray, List.getElem_cons_zero, List.getElem_cons_succ, List.setIfInBounds_toArray, List.set_cons_zero, List.set_cons_succ])
    refine anyT_take (i := 6) (oi := _) (v := Value.bool false) rfl (by kernel_rfl) (by kernel_rfl) (by kernel_rfl) (by decide) (by decide) (by kernel_rfl) (by kernel_rfl) inv (fun _ _ _ h => h) (Or.inl ⟨by kernel_rfl, ?_⟩) hS (fun inv => ?_)
    · intro wz hSw
      first | kernel_rfl | go_simp
    (try simp only [Act.put, List.getElem_toArray, List.getElem_cons_zero, List.getElem_cons_succ, List.setIfInBounds_toArray, List.set_cons_zero, List.set_cons_succ])
    refine anyT_ready (rs := [2]) (by kernel_rfl) (by simp) ?_
    refine ReadyT.head (o := _) rfl (by decide) (by kernel_rfl) inv (fun K hK => ?_) ReadyT.nil
    go_simp
    refine (resized_any A1 l1 c1 l2.length false _ L1.1 (by omega) (by omega) (Q1.out.drew.rd)).mono ?_
    rintro e G1 ⟨P1, d1, rfl, e1, g1, o1, hb⟩
    go_wp2_with fail
    refine hK.out _ _ ?_ (fun hS inv => ?_)
    · exact (hS : Below V.heap.size V _).trans (hb.mono (Below.size hS))
    clear hK K
    (try simp only [Act.put, List.getElem_toArray, List.getElem_cons_zero, List.getElem_cons_succ, List.setIfInBounds_toArray, List.set_cons_zero, List.set_cons_succ])
    have hBG1 : Below w.heap.size w G1 := Below.trans belo (hb.mono (by first | omega | (simp; omega)))
    have hzG1 : V.heap.size ≤ G1.heap.size := hb.size
    replace Q2 := hide (Q2.out.drew.kept hb)
    clear hb
    refine anyT_ready (rs := [5]) (by kernel_rfl) (by simp) ?_
    refine ReadyT.head (o := _) rfl (by decide) (by kernel_rfl) inv (fun K hK => ?_) ReadyT.nil
    go_simp
    refine (resized_any A2 l2 c2 l2.length false _ L2.1 (by omega) (by omega) (Q2.out.rd)).mono ?_
    rintro e G2 ⟨P2, d2, rfl, e2, g2, o2, hb⟩
    go_wp2_with fail
    refine hK.out _ _ ?_ (fun hS inv => ?_)
    · exact (hS : Below V.heap.size V _).trans (hb.mono (Below.size hS))
    clear hK K
    (try simp only [Act.put, List.getElem_toArray, List.getElem_cons_zero, List.getElem_cons_succ, List.setIfInBounds_toArray, List.set_cons_zero, List.set_cons_succ])
    have hBG2 : Below w.heap.size w G2 := Below.trans belo (hb.mono (by first | omega | (simp; omega)))
    have hzG2 : G1.heap.size ≤ G2.heap.size := hb.size
    have HS : Hid (Sep P1 P2) := hide fun g h e1 e2 => by
      obtain ⟨g1, x1, _, x2⟩ := o1.lt (by rw [rsz_length]; omega)
      obtain ⟨g2, y1, y2, _⟩ := o2.lt (by rw [rsz_length]; omega)
      have := x1.symm.trans e1; have := y1.symm.trans e2; simp only [Option.some.injEq, Addr.mk.injEq] at *; omega
    replace o1 := hide (OwQ.kept o1 hb)
    clear hb
    refine anyT_take (i := 7) (oi := _) (v := Value.slice P1 (rsz ⟨l1, false⟩ l2.length).length d1) rfl (by kernel_rfl) (by kernel_rfl) (by kernel_rfl) (by decide) (by decide) (by kernel_rfl) (by kernel_rfl) inv (fun _ _ _ h => h) (Or.inl ⟨by kernel_rfl, ?_⟩) hS (fun inv => ?_)
    · intro wz hSw
      first | kernel_rfl | go_simp
    (try simp only [Act.put, List.getElem_toArray, List.getElem_cons_zero, List.getElem_cons_succ, List.setIfInBounds_toArray, List.set_cons_zero, List.set_cons_succ])
    refine anyT_take (i := 8) (oi := _) (v := Value.slice P2 (rsz ⟨l2, false⟩ l2.length).length d2) rfl (by kernel_rfl) (by kernel_rfl) (by kernel_rfl) (by decide) (by decide) (by kernel_rfl) (by kernel_rfl) inv (fun _ _ _ h => h) (Or.inl ⟨by kernel_rfl, ?_⟩) hS (fun inv => ?_)
    · intro wz hSw
      first | kernel_rfl | go_simp
    (try simp only [Act.put, List.getElem_toArray, List.getElem_cons_zero, List.getElem_cons_succ, List.setIfInBounds_toArray, List.set_cons_zero, List.set_cons_succ])
    refine anyT_ready (rs := [9]) (by kernel_rfl) (by simp) ?_
    refine ReadyT.tail (o := _) rfl (by decide) (fun K hK => ?_)
    go_simp
    refine hK.out _ _ ?_
    clear hK K
    (try simp only [Act.put, List.getElem_toArray, List.getElem_cons_zero, List.getElem_cons_succ, List.setIfInBounds_toArray, List.set_cons_zero, List.set_cons_succ])
    refine anyT_done (by kernel_rfl) ?_ _
    go_wp2
    go_ret3
    exact ⟨rsz ⟨l1, false⟩ l2.length, P1, d1, rsz ⟨l2, false⟩ l2.length, P2, d2, X1, X2, by rw [HSG.out]; rfl, hide ⟨e1, g1⟩, hide ⟨e2, g2⟩, hide (o1.out.base (Nat.le_of_lt (show w.heap.size < V.drew.heap.size from z0))), hide (o2.base (by omega)), HS, hBG2⟩
  · have hsg : sg ⟨a, s⟩ ⟨b, t⟩ = false := by unfold sg; rw [← E1.out, ← E2.out]; simp [*]
    have hwd : wd ⟨a, s⟩ ⟨b, t⟩ = l1.length := by unfold wd; rw [← E1.out, ← E2.out]; show max l1.length l2.length = _; omega
    have L1 : 0 < l1.length ∧ l1.length ≤ 128 := by have h := cnt_gd (v := ⟨a, s⟩) ya; rw [← E1.out] at h; exact ⟨h.pos, h.le⟩
    have L2 : 0 < l2.length ∧ l2.length ≤ 128 := by have h := cnt_gd (v := ⟨b, t⟩) yb; rw [← E2.out] at h; exact ⟨h.pos, h.le⟩
    have X1 := hide (show rsz ⟨l1, false⟩ l1.length = blA ⟨a, s⟩ ⟨b, t⟩ by unfold blA; rw [hsg, hwd, ← E1.out])
    have X2 := hide (show rsz ⟨l2, false⟩ l1.length = blB ⟨a, s⟩ ⟨b, t⟩ by unfold blB; rw [hsg, hwd, ← E2.out])
    have HSG := hide hsg
    clear hsg hwd
    replace O1 := hide (O1.out)
    have P1 : RG w.heap.size W1.heap.size D2 A1 l1 := O1.out
    have P2 : RG w.heap.size W1.heap.size D2 A2 l2 := RG.lower O2.out (by omega)
    obtain ⟨V, hV⟩ : ∃ x, x = ((((((D2.setCell ⟨w.heap.size, 0, none⟩ (Value.slice A1 l1.length c1)).setCell ⟨w.heap.size, 1, none⟩ (Value.bool false)).setCell ⟨w.heap.size + 1, 0, none⟩ (Value.slice A2 l2.length c2)).setCell ⟨w.heap.size + 1, 1, none⟩ (Value.bool s2)).setCell ⟨w.heap.size, 1, none⟩ (Value.bool false)).setCell ⟨w.heap.size + 1, 1, none⟩ (Value.bool false)) := ⟨_, rfl⟩
    rw [← hV]
    have Q1 := hide (show RG w.heap.size W1.heap.size V A1 l1 by rw [hV]; (repeat (first | with_reducible exact P1 | with_reducible refine RG.setc ?_ (by simp) (by simp; omega) _)))
    have Q2 := hide (show RG w.heap.size W1.heap.size V A2 l2 by rw [hV]; (repeat (first | with_reducible exact P2 | with_reducible refine RG.setc ?_ (by simp) (by simp; omega) _)))
    have hBV : Below w.heap.size w V := by rw [hV]; exact belo
    have q0 : V.cell? ⟨w.heap.size, 0, none⟩ = some (Value.slice A1 l1.length c1) := by rw [hV]; (repeat (first | with_reducible refine cset_eq' ?_ | with_reducible refine cset_ne (by simp) ?_ | with_reducible refine cset_ex ?_ | exact ⟨_, (kcD _ _ zW1_0).trans (by assumption)⟩ | exact ⟨_, (kcD _ _ zW1_1).trans (by assumption)⟩))
    have q1 : V.cell? ⟨w.heap.size, 1, none⟩ = some (Value.bool false) := by rw [hV]; (repeat (first | with_reducible refine cset_eq' ?_ | with_reducible refine cset_ne (by simp) ?_ | with_reducible refine cset_ex ?_ | exact ⟨_, (kcD _ _ zW1_0).trans (by assumption)⟩ | exact ⟨_, (kcD _ _ zW1_1).trans (by assumption)⟩))
    have q2 : V.cell? ⟨w.heap.size + 1, 0, none⟩ = some (Value.slice A2 l2.length c2) := by rw [hV]; (repeat (first | with_reducible refine cset_eq' ?_ | with_reducible refine cset_ne (by simp) ?_ | with_reducible refine cset_ex ?_ | exact ⟨_, (kcD _ _ zW1_0).trans (by assumption)⟩ | exact ⟨_, (kcD _ _ zW1_1).trans (by assumption)⟩))
    have q3 : V.cell? ⟨w.heap.size + 1, 1, none⟩ = some (Value.bool false) := by rw [hV]; (repeat (first | with_reducible refine cset_eq' ?_ | with_reducible refine cset_ne (by simp) ?_ | with_reducible refine cset_ex ?_ | exact ⟨_, (kcD _ _ zW1_0).trans (by assumption)⟩ | exact ⟨_, (kcD _ _ zW1_1).trans (by assumption)⟩))
    have z0 : w.heap.size < V.heap.size := by rw [hV]; simp; omega
    have z1 : w.heap.size + 1 < V.heap.size := by rw [hV]; simp; omega
    clear hV P1 P2 kcD kfD
    refine region_anyT (S := fun wS => Below V.heap.size V wS) (n := 9) (by kernel_rfl) (Below.refl _ _).drew (fun hS inv => ?_)
    refine anyT_take (i := 0) (oi := _) (v := Value.agg #[Value.slice A1 l1.length c1, Value.bool false]) rfl (by kernel_rfl) (by kernel_rfl) (by kernel_rfl) (by decide) (by decide) (by kernel_rfl) (by kernel_rfl) inv (fun _ _ _ h => h) (Or.inl ⟨by kernel_rfl, ?_⟩) hS (fun inv => ?_)
    · intro wz hSw
      have hk0 := (hSw : Below _ _ _).cell (p := ⟨w.heap.size, 0, none⟩) (by first | assumption | (simp; done) | omega | (simp; omega)); have hk1 := (hSw : Below _ _ _).cell (p := ⟨w.heap.size, 1, none⟩) (by first | assumption | (simp; done) | omega | (simp; omega)); go_simp
    (try simp only [Act.put, List.getElem_toArray, List.getElem_cons_zero, List.getElem_cons_succ, List.setIfInBounds_toArray, List.set_cons_zero, List.set_cons_succ])
    refine anyT_take (i := 1) (oi := _) (v := Value.int IntKind.i64 ↑l1.length) rfl (by kernel_rfl) (by kernel_rfl) (by kernel_rfl) (by decide) (by decide) (by kernel_rfl) (by kernel_rfl) inv (fun _ _ _ h => h) (Or.inl ⟨by kernel_rfl, ?_⟩) hS (fun inv => ?_)
    · intro wz hSw
      first | kernel_rfl | go_simp
    (try simp only [Act.put, List.getElem_toArray, List.getElem_cons_zero, List.getElem_cons_succ, List.setIfInBounds_toArray, List.set_cons_zero, List.set_cons_succ])
    refine anyT_take (i := 3) (oi := _) (v := Value.agg #[Value.slice A2 l2.length c2, Value.bool false]) rfl (by kernel_rfl) (by kernel_rfl) (by kernel_rfl) (by decide) (by decide) (by kernel_rfl) (by kernel_rfl) inv (fun _ _ _ h => h) (Or.inl ⟨by kernel_rfl, ?_⟩) hS (fun inv => ?_)
    · intro wz hSw
      have hk0 := (hSw : Below _ _ _).cell (p := ⟨w.heap.size + 1, 0, none⟩) (by first | assumption | (simp; done) | omega | (simp; omega)); have hk1 := (hSw : Below _ _ _).cell (p := ⟨w.heap.size + 1, 1, none⟩) (by first | assumption | (simp; done) | omega | (simp; omega)); go_simp
    (try simp only [Act.put, List.getElem_toArray, List.getElem_cons_zero, List.getElem_cons_succ, List.setIfInBounds_toArray, List.set_cons_zero, List.set_cons_succ])
    refine anyT_take (i := 4) (oi := _) (v := Value.int IntKind.i64 ↑l1.length) rfl (by kernel_rfl) (by kernel_rfl) (by kernel_rfl) (by decide) (by decide) (by kernel_rfl) (by kernel_rfl) inv (fun _ _ _ h => h) (Or.inl ⟨by kernel_rfl, ?_⟩) hS (fun inv => ?_)
    · intro wz hSw
      first | kernel_rfl | go_simp
    (try simp only [Act.put, List.getElem_toArray, List.getElem_cons_zero, List.getElem_cons_succ, List.setIfInBounds_toArray, List.set_cons_zero, List.set_cons_succ])
    refine anyT_take (i := 6) (oi := _) (v := Value.bool false) rfl (by kernel_rfl) (by kernel_rfl) (by kernel_rfl) (by decide) (by decide) (by kernel_rfl) (by kernel_rfl) inv (fun _ _ _ h => h) (Or.inl ⟨by kernel_rfl, ?_⟩) hS (fun inv => ?_)
    · intro wz hSw
      first | kernel_rfl | go_simp
    (try simp only [Act.put, List.getElem_toArray, List.getElem_cons_zero, List.getElem_cons_succ, List.setIfInBounds_toArray, List.set_cons_zero, List.set_cons_succ])
    refine anyT_ready (rs := [2]) (by kernel_rfl) (by simp) ?_
    refine ReadyT.head (o := _) rfl (by decide) (by kernel_rfl) inv (fun K hK => ?_) ReadyT.nil
    go_simp
    refine (resized_any A1 l1 c1 l1.length false _ L1.1 (by omega) (by omega) (Q1.out.drew.rd)).mono ?_
    rintro e G1 ⟨P1, d1, rfl, e1, g1, o1, hb⟩
    go_wp2_with fail
    refine hK.out _ _ ?_ (fun hS inv => ?_)
    · exact (hS : Below V.heap.size V _).trans (hb.mono (Below.size hS))
    clear hK K
    (try simp only [Act.put, List.getElem_toArray, List.getElem_cons_zero, List.getElem_cons_succ, List.setIfInBounds_toArray, List.set_cons_zero, List.set_cons_succ])
    have hBG1 : Below w.heap.size w G1 := Below.trans belo (hb.mono (by first | omega | (simp; omega)))
    have hzG1 : V.heap.size ≤ G1.heap.size := hb.size
    replace Q2 := hide (Q2.out.drew.kept hb)
    clear hb
    refine anyT_ready (rs := [5]) (by kernel_rfl) (by simp) ?_
    refine ReadyT.head (o := _) rfl (by decide) (by kernel_rfl) inv (fun K hK => ?_) ReadyT.nil
    go_simp
    refine (resized_any A2 l2 c2 l1.length false _ L2.1 (by omega) (by omega) (Q2.out.rd)).mono ?_
    rintro e G2 ⟨P2, d2, rfl, e2, g2, o2, hb⟩
    go_wp2_with fail
    refine hK.out _ _ ?_ (fun hS inv => ?_)
    · exact (hS : Below V.heap.size V _).trans (hb.mono (Below.size hS))
    clear hK K
    (try simp only [Act.put, List.getElem_toArray, List.getElem_cons_zero, List.getElem_cons_succ, List.setIfInBounds_toArray, List.set_cons_zero, List.set_cons_succ])
    have hBG2 : Below w.heap.size w G2 := Below.trans belo (hb.mono (by first | omega | (simp; omega)))
    have hzG2 : G1.heap.size ≤ G2.heap.size := hb.size
    have HS : Hid (Sep P1 P2) := hide fun g h e1 e2 => by
      obtain ⟨g1, x1, _, x2⟩ := o1.lt (by rw [rsz_length]; omega)
      obtain ⟨g2, y1, y2, _⟩ := o2.lt (by rw [rsz_length]; omega)
      have := x1.symm.trans e1; have := y1.symm.trans e2; simp only [Option.some.injEq, Addr.mk.injEq] at *; omega
    replace o1 := hide (OwQ.kept o1 hb)
    clear hb
    refine anyT_take (i := 7) (oi := _) (v := Value.slice P1 (rsz ⟨l1, false⟩ l1.length).length d1) rfl (by kernel_rfl) (by kernel_rfl) (by kernel_rfl) (by decide) (by decide) (by kernel_rfl) (by kernel_rfl) inv (fun _ _ _ h => h) (Or.inl ⟨by kernel_rfl, ?_⟩) hS (fun inv => ?_)
    · intro wz hSw
      first | kernel_rfl | go_simp
    (try simp only [Act.put, List.getElem_toArray, List.getElem_cons_zero, List.getElem_cons_succ, List.setIfInBounds_toArray, List.set_cons_zero, List.set_cons_succ])
    refine anyT_take (i := 8) (oi := _) (v := Value.slice P2 (rsz ⟨l2, false⟩ l1.length).length d2) rfl (by kernel_rfl) (by kernel_rfl) (by kernel_rfl) (by decide) (by decide) (by kernel_rfl) (by kernel_rfl) inv (fun _ _ _ h => h) (Or.inl ⟨by kernel_rfl, ?_⟩) hS (fun inv => ?_)
    · intro wz hSw
      first | kernel_rfl | go_simp
    (try simp only [Act.put, List.getElem_toArray, List.getElem_cons_zero, List.getElem_cons_succ, List.setIfInBounds_toArray, List.set_cons_zero, List.set_cons_succ])
    refine anyT_ready (rs := [9]) (by kernel_rfl) (by simp) ?_
    refine ReadyT.tail (o := _) rfl (by decide) (fun K hK => ?_)
    go_simp
    refine hK.out _ _ ?_
    clear hK K
    (try simp only [Act.put, List.getElem_toArray, List.getElem_cons_zero, List.getElem_cons_succ, List.setIfInBounds_toArray, List.set_cons_zero, List.set_cons_succ])
    refine anyT_done (by kernel_rfl) ?_ _
    go_wp2
    go_ret3
    exact ⟨rsz ⟨l1, false⟩ l1.length, P1, d1, rsz ⟨l2, false⟩ l1.length, P2, d2, X1, X2, by rw [HSG.out]; rfl, hide ⟨e1, g1⟩, hide ⟨e2, g2⟩, hide (o1.out.base (Nat.le_of_lt (show w.heap.size < V.drew.heap.size from z0))), hide (o2.base (by omega)), HS, hBG2⟩
end
section
open Go.RowKit
set_option maxRecDepth 100000
set_option linter.unusedSimpArgs false
set_option linter.unusedVariables false
/-- The tables of package bit read as they are laid. -/
structure Tabs (w : World) : Prop where
  tn : Tab1 4 mNot w
  tb : Tab1 5 mBuf w
  ta : Tab2 1 mAnd w
  tO : Tab2 2 mOr w
  tx : Tab2 3 mXor w
  tg : Tab2 0 mAgree w
theorem Tab1.kept {g : Nat} {f : Int → Int} {w w' : World} (h : Tab1 g f w) (hb : Below w.heap.size w w') : Tab1 g f w' := fun a ha =>
  (hb.cell (p := ⟨g, (bst a).toNat, none⟩) (block_lt_of_cell (h a ha))).trans (h a ha)
theorem Tab2.kept {g : Nat} {f : Int → Int → Int} {w w' : World} (h : Tab2 g f w) (hb : Below w.heap.size w w') : Tab2 g f w' := fun a b ha hb' =>
  (hb.cell (p := ⟨g, (bst a).toNat * 4 + (bst b).toNat, none⟩) (block_lt_of_cell (h a b ha hb'))).trans (h a b ha hb')
theorem Tabs.kept {w w' : World} (h : Tabs w) (hb : Below w.heap.size w w') : Tabs w' := ⟨h.tn.kept hb, h.tb.kept hb, h.ta.kept hb, h.tO.kept hb, h.tx.kept hb, h.tg.kept hb⟩
theorem Tabs.drew {w : World} (h : Tabs w) : Tabs w.drew := h.kept ((Below.refl _ _).drew)
theorem Tabs.drewN {w : World} (h : Tabs w) (n : Nat) : Tabs (w.drewN n) := h.kept (below_drewN (Below.refl _ _) n)
/-- A function value on two bits. -/
structure OpF (N : Nat) (f : Int → Int → Int) : Prop where
  cf : Ent N
  ct : ∀ p q w, 0 ≤ p → 0 ≤ q → Tabs w → Calls Tryz.prog N #[.int .u8 p, .int .u8 q] w (Gives (.int .u8 (f p q)) w)
  bd : ∀ p q, 0 ≤ p ∧ p ≤ 3 → 0 ≤ q ∧ q ≤ 3 → 0 ≤ f p q ∧ f p q ≤ 3
theorem bd_of3 {x : Int} (h : x = 0 ∨ x = 1 ∨ x = 2) : 0 ≤ x ∧ x ≤ 3 := by omega
theorem opF_and : OpF 124 mAnd := ⟨Tryz.call124, fun p q w h1 h2 h => and_q p q w h1 h2 h.ta, fun p q _ _ => bd_of3 (mAnd_3 p q)⟩
theorem opF_or : OpF 125 mOr := ⟨Tryz.call125, fun p q w h1 h2 h => or_q p q w h1 h2 h.tO, fun p q _ _ => bd_of3 (mOr_3 p q)⟩
theorem opF_eq : OpF 127 mEq := ⟨Tryz.call127, fun p q w h1 h2 h => eq_q p q w h1 h2 h.tx h.tn, fun p q _ _ => bd_of3 (mEq_3 p q)⟩
theorem opF_mux : OpF 109 (mMux 2) := by
  refine ⟨Tryz.call109, fun p q w h1 h2 h => ?_, fun p q hp _ => bd_of3 (mMux_3 2 p q hp.1)⟩
  have H := hide h
  clear h
  go_enter Tryz.func109, Tryz.ntmps109
  go_wp2_with (go_at_call 110; refine (mux_q 2 _ _ _ h1 h2 H.out.tb H.out.tg).mono ?_; rintro e w' ⟨rfl, n, rfl⟩)
  go_ret
  exact ⟨rfl, _, rfl⟩
theorem opF_first : OpF 112 (fun p _ => p) := by
  refine ⟨Tryz.call112, fun p q w h1 h2 h => ?_, fun p q hp _ => hp⟩
  go_enter Tryz.func112, Tryz.ntmps112
  go_wp2
  go_ret
  exact ⟨rfl, 0, rfl⟩
theorem opF_second : OpF 113 (fun _ q => q) := by
  refine ⟨Tryz.call113, fun p q w h1 h2 h => ?_, fun p q _ hq => hq⟩
  go_enter Tryz.func113, Tryz.ntmps113
  go_wp2
  go_ret
  exact ⟨rfl, 0, rfl⟩
/-- A row that is filled anew from its start on. -/
def Mix (k : Nat) (f g : Nat → Int) (j : Nat) : Int := if j < k then f j else g j
theorem Mix.step (k : Nat) (f g : Nat → Int) (j : Nat) : (if j = k then f k else Mix k f g j) = Mix (k + 1) f g j := by
  unfold Mix
  by_cases h : j = k
  · subst h; rw [if_pos rfl, if_pos (by omega)]
  · rw [if_neg h]
    by_cases h1 : j < k
    · rw [if_pos h1, if_pos (by omega)]
    · rw [if_neg h1, if_neg (by omega)]
theorem bcellB {B : Nat} {W w1 : World} (hb : Below B W w1) : (∀ b o, b < B → w1.cell? ⟨b, o, none⟩ = W.cell? ⟨b, o, none⟩) ∧ (∀ b o, b < B → w1.frozen? ⟨b, o, none⟩ = W.frozen? ⟨b, o, none⟩) :=
  ⟨fun b o h => hb.cell (p := ⟨b, o, none⟩) h, fun b o h => hb.frozen (p := ⟨b, o, none⟩) h⟩
/-- A round of bitwise: what lies below B is as it was in the world w1. -/
structure BwR (B : Nat) (w1 : World) (g h n k : Nat) (f : Nat → Int) (p q : List Int) (wr : World) : Prop where
  row : RowQ wr g n (Mix k f (qt p))
  oth : RowQ wr h n (qt q)
  bel : Below B w1 wr
theorem BwR.step {B : Nat} {w1 wr : World} {g h n k : Nat} {f : Nat → Int} {p q : List Int} (r : BwR B w1 g h n k f p q wr) (hg : B ≤ g) (hne : g ≠ h) (m : Nat) : BwR B w1 g h n (k + 1) f p q ((wr.drewN m).setCell ⟨g, k, none⟩ (.int .u8 (f k))) where
  row := ((r.row.drewN m).set_ k _).congr fun j _ => Mix.step k f (qt p) j
  oth := (r.oth.drewN m).far (by simpa using Ne.symm hne) _
  bel := (below_drewN r.bel m).setCell (by simpa using hg) _
set_option maxHeartbeats 2000000 in
theorem bitwise_any (N : Nat) (f : Int → Int → Int) (hop : OpF N f) (A B : Option Addr) (a b : List Int) (c d : Nat) (s t : Bool) (w : World) (ha : a.length ≤ 4096) (hb : b.length ≤ 4096) (hca : Hid (a.length ≤ c ∧ c ≤ maxLen)) (hcb : Hid (b.length ≤ d ∧ d ≤ maxLen)) (hA : RQ w A a) (hB : RQ w B b) (ya : By a) (yb : By b) (ht : Tabs w) :
    Calls Tryz.prog 114 #[.agg #[.slice A a.length c, .bool s], .agg #[.slice B b.length d, .bool t], .func (.func N) #[] #[]] w (RetC (· = btw f ⟨a, s⟩ ⟨b, t⟩) w) := by
  have hcf : ∀ args w, (callFunc N args).run Tryz.prog w = .ok (.enter N args) w := hop.cf
  have HO := hide hop
  have HT := hide ht
  have hwd := wd_bd (a := ⟨a, s⟩) (b := ⟨b, t⟩) ya yb
  have HGA := hide (gd_blA (a := ⟨a, s⟩) (b := ⟨b, t⟩) ya yb)
  have HGB := hide (gd_blB (a := ⟨a, s⟩) (b := ⟨b, t⟩) ya yb)
  have hbal := hide fun W (hW : Below w.heap.size w W) => balance_any A B a b c d s t W ha hb hca hcb (hA.below hW) (hB.below hW) ya yb
  clear hop hA hB ha hb ht
  obtain ⟨n, hn⟩ : ∃ n, n = wd ⟨a, s⟩ ⟨b, t⟩ := ⟨_, rfl⟩
  rw [← hn] at hwd
  have HN := hide hn
  obtain ⟨σ, hσ⟩ : ∃ σ, σ = sg ⟨a, s⟩ ⟨b, t⟩ := ⟨_, rfl⟩
  have HSG := hide hσ
  unfold RetB at hbal
  rw [← hσ] at hbal
  clear hn hσ
  go_enter Tryz.func114, Tryz.ntmps114
  go_wp2_with fail
  refine (hbal.out _ belo).mono ?_
  rintro e w1 ⟨p, P, pc, q, Q, qc, Ep, Eq, rfl, Cp, Cq, Op, Oq, Hs, hb1⟩
  have lp : p.length = n := by rw [Ep.out, blA_length, HN.out]
  have lq : q.length = n := by rw [Eq.out, blB_length, HN.out]
  obtain ⟨g, rfl, hg, hgr⟩ := Op.out (by omega)
  obtain ⟨h, rfl, hh, hhr⟩ := Oq.out (by omega)
  have hne := Hs.out g h rfl rfl
  rw [lp] at hgr
  rw [lq] at hhr
  have hz1 := hb1.size
  simp at hz1
  replace hg : w.heap.size + 3 ≤ g := by simp at hg; omega
  replace hh : w.heap.size + 3 ≤ h := by simp at hh; omega
  obtain ⟨kc1, kf1⟩ := bcell hb1
  replace hb1 : Below w.heap.size w w1 := Below.trans belo (hb1.mono (by simp; omega))
  have HR1 := hide (BwR.mk (k := 0) (f := fun j => f (qt p j) (qt q j)) (hgr.congr fun j _ => by simp [Mix]) hhr (Below.refl _ _) : BwR (w.heap.size + 3) w1 g h n 0 (fun j => f (qt p j) (qt q j)) p q w1)
  have C1 := hide lp
  have C2 := hide lq
  rw [lp, lq]
  clear hgr hhr lp lq Op Oq Hs
  go_wp2_with fail
  go_loopw [20] (fun i wr => ∃ k : Nat, k ≤ n ∧ i = .int .i64 k ∧ BwR (w.heap.size + 3) w1 g h n k (fun j => f (qt p j) (qt q j)) p q wr) (fun i _ => n - (intOf i).toNat)
  case atStart => exact ⟨0, Nat.zero_le _, rfl, HR1.out⟩
  case round =>
    clear HR1
    obtain ⟨k, hk, rfl, hR⟩ := hrel
    by_cases hlt : k < n
    · have hRH := hide hR
      have hc1 : wr.cell? ⟨g, k, none⟩ = some (.int .u8 (qt p k)) := by rw [hR.row.cell hlt]; simp [Mix]
      have hc2 : wr.cell? ⟨h, k, none⟩ = some (.int .u8 (qt q k)) := hR.oth.cell hlt
      have hl1 := hR.row.lt
      have hl2 := hR.oth.lt
      have hf := hR.row.free k
      have HTr := hide (HT.out.kept (hb1.trans (hR.bel.mono (by omega))))
      have b1 := (HGA.out.bd k)
      have b2 := (HGB.out.bd k)
      rw [← Ep.out] at b1
      rw [← Eq.out] at b2
      clear hR
      go_wp2_with fail
      refine region_anyT (S := fun wS => Below wr.heap.size wr wS) (n := 13) (by kernel_rfl) (Below.refl _ _).drew (fun hS inv => ?_)
      refine anyT_take (i := 0) (oi := _) (v := Value.slice (some ⟨g, 0, none⟩) n pc) rfl (by kernel_rfl) (by kernel_rfl) (by kernel_rfl) (by decide) (by decide) (by kernel_rfl) (by kernel_rfl) inv (fun _ _ _ h => h) (Or.inl ⟨by kernel_rfl, ?_⟩) hS (fun inv => ?_)
      · intro wz hSw
        first | kernel_rfl | go_simp
      (try simp only [Act.put, List.getElem_toArray, List.getElem_cons_zero, List.getElem_cons_succ, List.setIfInBounds_toArray, List.set_cons_zero, List.set_cons_succ])
      refine anyT_take (i := 1) (oi := _) (v := Value.int IntKind.i64 ↑k) rfl (by kernel_rfl) (by kernel_rfl) (by kernel_rfl) (by decide) (by decide) (by kernel_rfl) (by kernel_rfl) inv (fun _ _ _ h => h) (Or.inl ⟨by kernel_rfl, ?_⟩) hS (fun inv => ?_)
      · intro wz hSw
        first | kernel_rfl | go_simp
      (try simp only [Act.put, List.getElem_toArray, List.getElem_cons_zero, List.getElem_cons_succ, List.setIfInBounds_toArray, List.set_cons_zero, List.set_cons_succ])
      refine anyT_take (i := 2) (oi := _) (v := Value.func (Fn.func N) #[] #[]) rfl (by kernel_rfl) (by kernel_rfl) (by kernel_rfl) (by decide) (by decide) (by kernel_rfl) (by kernel_rfl) inv (fun _ _ _ h => h) (Or.inl ⟨by kernel_rfl, ?_⟩) hS (fun inv => ?_)
      · intro wz hSw
        first | kernel_rfl | go_simp
      (try simp only [Act.put, List.getElem_toArray, List.getElem_cons_zero, List.getElem_cons_succ, List.setIfInBounds_toArray, List.set_cons_zero, List.set_cons_succ])
      refine anyT_take (i := 3) (oi := _) (v := Value.slice (some ⟨g, 0, none⟩) n pc) rfl (by kernel_rfl) (by kernel_rfl) (by kernel_rfl) (by decide) (by decide) (by kernel_rfl) (by kernel_rfl) inv (fun _ _ _ h => h) (Or.inl ⟨by kernel_rfl, ?_⟩) hS (fun inv => ?_)
      · intro wz hSw
        first | kernel_rfl | go_simp
      (try simp only [Act.put, List.getElem_toArray, List.getElem_cons_zero, List.getElem_cons_succ, List.setIfInBounds_toArray, List.set_cons_zero, List.set_cons_succ])
      refine anyT_take (i := 4) (oi := _) (v := Value.int IntKind.i64 ↑k) rfl (by kernel_rfl) (by kernel_rfl) (by kernel_rfl) (by decide) (by decide) (by kernel_rfl) (by kernel_rfl) inv (fun _ _ _ h => h) (Or.inl ⟨by kernel_rfl, ?_⟩) hS (fun inv => ?_)
      · intro wz hSw
        first | kernel_rfl | go_simp
      (try simp only [Act.put, List.getElem_toArray, List.getElem_cons_zero, List.getElem_cons_succ, List.setIfInBounds_toArray, List.set_cons_zero, List.set_cons_succ])
      refine anyT_take (i := 5) (oi := _) (v := Value.pointer (some ⟨g, k, none⟩)) rfl (by kernel_rfl) (by kernel_rfl) (by kernel_rfl) (by decide) (by decide) (by kernel_rfl) (by kernel_rfl) inv (fun _ _ _ h => h) (Or.inl ⟨by kernel_rfl, ?_⟩) hS (fun inv => ?_)
      · intro wz hSw
        go_simp
      (try simp only [Act.put, List.getElem_toArray, List.getElem_cons_zero, List.getElem_cons_succ, List.setIfInBounds_toArray, List.set_cons_zero, List.set_cons_succ])
      refine anyT_take (i := 6) (oi := _) (v := Value.int IntKind.u8 (qt p k)) rfl (by kernel_rfl) (by kernel_rfl) (by kernel_rfl) (by decide) (by decide) (by kernel_rfl) (by kernel_rfl) inv (fun _ _ _ h => h) (Or.inl ⟨by kernel_rfl, ?_⟩) hS (fun inv => ?_)
      · intro wz hSw
        have hk0 := (hSw : Below _ _ _).cell (p := ⟨g, k, none⟩) (by first | assumption | (simp; done) | omega | (simp; omega)); go_simp
      (try simp only [Act.put, List.getElem_toArray, List.getElem_cons_zero, List.getElem_cons_succ, List.setIfInBounds_toArray, List.set_cons_zero, List.set_cons_succ])
      refine anyT_take (i := 7) (oi := _) (v := Value.slice (some ⟨h, 0, none⟩) n qc) rfl (by kernel_rfl) (by kernel_rfl) (by kernel_rfl) (by decide) (by decide) (by kernel_rfl) (by kernel_rfl) inv (fun _ _ _ h => h) (Or.inl ⟨by kernel_rfl, ?_⟩) hS (fun inv => ?_)
      · intro wz hSw
        first | kernel_rfl | go_simp
      (try simp only [Act.put, List.getElem_toArray, List.getElem_cons_zero, List.getElem_cons_succ, List.setIfInBounds_toArray, List.set_cons_zero, List.set_cons_succ])
      refine anyT_take (i := 8) (oi := _) (v := Value.int IntKind.i64 ↑k) rfl (by kernel_rfl) (by kernel_rfl) (by kernel_rfl) (by decide) (by decide) (by kernel_rfl) (by kernel_rfl) inv (fun _ _ _ h => h) (Or.inl ⟨by kernel_rfl, ?_⟩) hS (fun inv => ?_)
      · intro wz hSw
        first | kernel_rfl | go_simp
      (try simp only [Act.put, List.getElem_toArray, List.getElem_cons_zero, List.getElem_cons_succ, List.setIfInBounds_toArray, List.set_cons_zero, List.set_cons_succ])
      refine anyT_take (i := 9) (oi := _) (v := Value.pointer (some ⟨h, k, none⟩)) rfl (by kernel_rfl) (by kernel_rfl) (by kernel_rfl) (by decide) (by decide) (by kernel_rfl) (by kernel_rfl) inv (fun _ _ _ h => h) (Or.inl ⟨by kernel_rfl, ?_⟩) hS (fun inv => ?_)
      · intro wz hSw
        go_simp
      (try simp only [Act.put, List.getElem_toArray, List.getElem_cons_zero, List.getElem_cons_succ, List.setIfInBounds_toArray, List.set_cons_zero, List.set_cons_succ])
      refine anyT_take (i := 10) (oi := _) (v := Value.int IntKind.u8 (qt q k)) rfl (by kernel_rfl) (by kernel_rfl) (by kernel_rfl) (by decide) (by decide) (by kernel_rfl) (by kernel_rfl) inv (fun _ _ _ h => h) (Or.inl ⟨by kernel_rfl, ?_⟩) hS (fun inv => ?_)
      · intro wz hSw
        have hk0 := (hSw : Below _ _ _).cell (p := ⟨h, k, none⟩) (by first | assumption | (simp; done) | omega | (simp; omega)); go_simp
      (try simp only [Act.put, List.getElem_toArray, List.getElem_cons_zero, List.getElem_cons_succ, List.setIfInBounds_toArray, List.set_cons_zero, List.set_cons_succ])
      refine anyT_ready (rs := [11]) (by kernel_rfl) (by simp) ?_
      refine ReadyT.head (o := _) rfl (by decide) (by kernel_rfl) inv (fun K hK => ?_) ReadyT.nil
      go_simp
      refine (HO.out.ct (qt p k) (qt q k) _ b1.1 b2.1 HTr.out.drew).mono ?_
      rintro e wz ⟨rfl, m, rfl⟩
      go_wp2_with fail
      refine hK.out _ _ ?_ (fun hS inv => ?_)
      · exact below_drewN (Below.refl _ _) _
      clear hK K
      (try simp only [Act.put, List.getElem_toArray, List.getElem_cons_zero, List.getElem_cons_succ, List.setIfInBounds_toArray, List.set_cons_zero, List.set_cons_succ])
      refine anyT_take (i := 12) (oi := _) (v := Value.pointer (some ⟨g, k, none⟩)) rfl (by kernel_rfl) (by kernel_rfl) (by kernel_rfl) (by decide) (by decide) (by kernel_rfl) (by kernel_rfl) inv (fun _ _ _ h => h) (Or.inl ⟨by kernel_rfl, ?_⟩) hS (fun inv => ?_)
      · intro wz hSw
        go_simp
      (try simp only [Act.put, List.getElem_toArray, List.getElem_cons_zero, List.getElem_cons_succ, List.setIfInBounds_toArray, List.set_cons_zero, List.set_cons_succ])
      refine anyT_ready (rs := [13]) (by kernel_rfl) (by simp) ?_
      refine ReadyT.tail (o := _) rfl (by decide) (fun K hK => ?_)
      go_simp
      refine hK.out _ _ ?_
      clear hK K
      (try simp only [Act.put, List.getElem_toArray, List.getElem_cons_zero, List.getElem_cons_succ, List.setIfInBounds_toArray, List.set_cons_zero, List.set_cons_succ])
      refine anyT_done (by kernel_rfl) ?_ _
      go_wp2
      go_roundw
      case rel => exact ⟨k + 1, by omega, by go_num, hRH.out.step (by omega) hne _⟩
      case measure => simp [intOf]; omega
    · have hRH := hide hR
      have e : k = n := by omega
      subst e
      obtain ⟨kcB, kfB⟩ := bcellB hR.bel
      obtain ⟨p', hp'⟩ : ∃ p', p' = ql k fun i => f (qt p i) (qt q i) := ⟨_, rfl⟩
      have hBr : Below w.heap.size w wr := hb1.trans (hR.bel.mono (by omega))
      clear hR
      go_wp2
      refine bodyPost_ret (v := .agg #[.slice (some ⟨g, 0, none⟩) k pc, .bool σ]) (by simp [results, Tryz.results114, go_sem, *]) rfl ?_
      refine ⟨p', σ, some ⟨g, 0, none⟩, pc, hide ?_, by rw [show p'.length = k from by rw [hp', ql_length]], hide (by rw [show p'.length = k from by rw [hp', ql_length], ← C1.out]; exact Cp.out), hide fun _ => ⟨g, rfl, by omega, ?_⟩, belo⟩
      · unfold btw
        rw [← HN.out, ← HSG.out, hp']
        exact Vc.ext' (ql_congr fun i hi => by rw [Ep.out, Eq.out]) rfl
      · rw [show p'.length = k from by rw [hp', ql_length]]
        have hrow : RowQ wr g k (qt p') := hRH.out.row.congr fun i hi => by rw [hp', qt_ql_lt hi]; simp [Mix, hi]
        exact ((hrow.far (by simp; omega) _).far (by simp; omega) _)
end
section
open Go.RowKit
set_option maxRecDepth 100000
set_option linter.unusedSimpArgs false
set_option linter.unusedVariables false
theorem vAnd_any (A B : Option Addr) (a b : List Int) (c d : Nat) (s t : Bool) (w : World) (ha : a.length ≤ 4096) (hb : b.length ≤ 4096) (hca : Hid (a.length ≤ c ∧ c ≤ maxLen)) (hcb : Hid (b.length ≤ d ∧ d ≤ maxLen)) (hA : RQ w A a) (hB : RQ w B b) (ya : By a) (yb : By b) (ht : Tabs w) :
    Calls Tryz.prog 40 #[.agg #[.slice A a.length c, .bool s], .agg #[.slice B b.length d, .bool t]] w (RetC (· = btw mAnd ⟨a, s⟩ ⟨b, t⟩) w) := by
  have HA := hide hA
  have HBB := hide hB
  have LA := hide ha
  have LB := hide hb
  have YA := hide ya
  have YB := hide yb
  clear hA hB ha hb ya yb
  have HT := hide ht
  clear ht
  go_enter Tryz.func40, Tryz.ntmps40
  go_wp2_with fail
  refine (bitwise_any _ _ opF_and A B a b c d s t _ LA.out LB.out hca hcb (HA.out.below belo) (HBB.out.below belo) YA.out YB.out (HT.out.kept belo)).mono ?_
  rintro e w1 ⟨l1, s1, A1, c1, E1, rfl, C1, O1, hb⟩
  replace O1 := hide (O1.out.base (show w.heap.size + 3 ≤ _ by first | omega | (simp; omega) | (simp; done)))
  have hB1 : Below w.heap.size w w1 := Below.trans belo (hb.mono (by first | omega | (simp; omega)))
  obtain ⟨kc1, kf1⟩ := bcell hb
  have hz1 := hb.size
  (try simp at hz1)
  have n1_0 : w.heap.size < w1.heap.size := by omega
  have n1_1 : w.heap.size + 1 < w1.heap.size := by omega
  have n1_2 : w.heap.size + 2 < w1.heap.size := by omega
  clear hb
  go_wp2
  refine bodyPost_ret (v := .agg #[.slice A1 l1.length c1, .bool s1]) (by simp [results, Tryz.results40, go_sem, *]) rfl ?_
  exact ⟨l1, s1, A1, c1, hide (E1.out), rfl, C1, hide (OwQ.base (B := w.heap.size + 3) (by (repeat (first | with_reducible exact O1.out | with_reducible refine OwQ.far ?_ (by first | (simp; done) | omega | (simp; omega)) _ | with_reducible refine OwQ.allc ?_ _ | with_reducible refine OwQ.drew ?_ | with_reducible refine OwQ.drewN ?_ _))) (by omega)), belo⟩
theorem vXnor_any (A B : Option Addr) (a b : List Int) (c d : Nat) (s t : Bool) (w : World) (ha : a.length ≤ 4096) (hb : b.length ≤ 4096) (hca : Hid (a.length ≤ c ∧ c ≤ maxLen)) (hcb : Hid (b.length ≤ d ∧ d ≤ maxLen)) (hA : RQ w A a) (hB : RQ w B b) (ya : By a) (yb : By b) (ht : Tabs w) :
    Calls Tryz.prog 43 #[.agg #[.slice A a.length c, .bool s], .agg #[.slice B b.length d, .bool t]] w (RetC (· = btw mEq ⟨a, s⟩ ⟨b, t⟩) w) := by
  have HA := hide hA
  have HBB := hide hB
  have LA := hide ha
  have LB := hide hb
  have YA := hide ya
  have YB := hide yb
  clear hA hB ha hb ya yb
  have HT := hide ht
  clear ht
  go_enter Tryz.func43, Tryz.ntmps43
  go_wp2_with fail
  refine (bitwise_any _ _ opF_eq A B a b c d s t _ LA.out LB.out hca hcb (HA.out.below belo) (HBB.out.below belo) YA.out YB.out (HT.out.kept belo)).mono ?_
  rintro e w1 ⟨l1, s1, A1, c1, E1, rfl, C1, O1, hb⟩
  replace O1 := hide (O1.out.base (show w.heap.size + 3 ≤ _ by first | omega | (simp; omega) | (simp; done)))
  have hB1 : Below w.heap.size w w1 := Below.trans belo (hb.mono (by first | omega | (simp; omega)))
  obtain ⟨kc1, kf1⟩ := bcell hb
  have hz1 := hb.size
  (try simp at hz1)
  have n1_0 : w.heap.size < w1.heap.size := by omega
  have n1_1 : w.heap.size + 1 < w1.heap.size := by omega
  have n1_2 : w.heap.size + 2 < w1.heap.size := by omega
  clear hb
  go_wp2
  refine bodyPost_ret (v := .agg #[.slice A1 l1.length c1, .bool s1]) (by simp [results, Tryz.results43, go_sem, *]) rfl ?_
  exact ⟨l1, s1, A1, c1, hide (E1.out), rfl, C1, hide (OwQ.base (B := w.heap.size + 3) (by (repeat (first | with_reducible exact O1.out | with_reducible refine OwQ.far ?_ (by first | (simp; done) | omega | (simp; omega)) _ | with_reducible refine OwQ.allc ?_ _ | with_reducible refine OwQ.drew ?_ | with_reducible refine OwQ.drewN ?_ _))) (by omega)), belo⟩
end
section
open Go.RowKit
set_option maxRecDepth 100000
set_option linter.unusedSimpArgs false
set_option linter.unusedVariables false
theorem and_mask {z : Nat} (h : z < 4294967296) : bits .and .u64 (z : Int) 4294967295 = z := by
  show IntKind.u64.wrap ((BitVec.ofInt 64 z &&& BitVec.ofInt 64 4294967295).toNat : Int) = _
  have e : (BitVec.ofInt 64 (z : Int) &&& BitVec.ofInt 64 4294967295).toNat = z := by
    rw [BitVec.toNat_and, BitVec.toNat_ofInt, BitVec.toNat_ofInt]
    rw [show ((4294967295 : Int) % ((2 ^ 64 : Nat) : Int)).toNat = 2 ^ 32 - 1 from rfl, Nat.and_two_pow_sub_one_eq_mod]
    omega
  rw [e, IntKind.wrap_u64]
  omega
theorem mul64_any (x y : Nat) (w : World) (hx : x ≤ 4096) (hy : y ≤ 4096) :
    Calls Tryz.prog 194 #[.int .u64 x, .int .u64 y] w fun e w' => e = .returned (.tuple #[.int .u64 0, .int .u64 (x * y : Nat)]) ∧ w = w' := by
  have e1 := and_mask (z := x) (by omega)
  have e2 := and_mask (z := y) (by omega)
  have e3 : (x : Int) / 4294967296 = 0 := by omega
  have e4 : (y : Int) / 4294967296 = 0 := by omega
  obtain ⟨m, hm⟩ : ∃ m, m = x * y := ⟨_, rfl⟩
  have hm1 : m ≤ 16777216 := by rw [hm]; exact Nat.mul_le_mul hx hy
  have e5 : (x : Int) * y = (m : Int) := by rw [hm]; simp
  have e6 := and_mask (z := m) (by omega)
  have e7 : (m : Int) / 4294967296 = 0 := by omega
  have HM := hide hm
  rw [← hm]
  clear hm
  go_enter Tryz.func194, Tryz.ntmps194
  go_wp2
  go_ret2
  exact ⟨rfl, rfl⟩
theorem mulb_any (x y : Nat) (w : World) (hx : x ≤ 4096) (hy : y ≤ 4096) :
    Calls Tryz.prog 167 #[.int .u64 x, .int .u64 y] w fun e w' => e = .returned (.tuple #[.int .u64 0, .int .u64 (x * y : Nat)]) ∧ w = w' := by
  obtain ⟨m, hm⟩ : ∃ m, m = x * y := ⟨_, rfl⟩
  have hm1 : m ≤ 16777216 := by rw [hm]; exact Nat.mul_le_mul hx hy
  have hc := hide fun w => mul64_any x y w hx hy
  rw [← hm]
  rw [← hm] at hc
  clear hm
  go_enter Tryz.func167, Tryz.ntmps167
  go_wp2_with (go_at_call 194; refine (hc.out _).mono ?_; rintro e w' ⟨rfl, rfl⟩)
  go_ret2
  exact ⟨rfl, rfl⟩
theorem bit_size : (Tryz.prog.info? 65).map (·.size) = some 1 := by kernel_rfl
theorem bits_one (f : Nat → Int) (n : Nat) : ∀ v ∈ (List.range n).map (fun i => Value.int .u8 (f i)), v.oneCell' = true := by
  intro v hv
  simp only [List.mem_map] at hv
  obtain ⟨b, _, rfl⟩ := hv
  rfl
theorem splice_get (cur cs : List Value) (off i : Nat) (h : off + cs.length ≤ cur.length) : (splice cur off cs)[i]? = if i < off then cur[i]? else if i < off + cs.length then cs[i - off]? else cur[i]? := by
  unfold splice
  have ht : (List.take off cur).length = off := by simp; omega
  by_cases h1 : i < off
  · rw [if_pos h1, List.getElem?_append_left (by omega), List.getElem?_take, if_pos h1]
  · rw [if_neg h1, List.getElem?_append_right (by omega), ht]
    by_cases h2 : i < off + cs.length
    · rw [if_pos h2, List.getElem?_append_left (by omega)]
    · rw [if_neg h2, List.getElem?_append_right (by omega), List.getElem?_drop]
      congr 1; omega
theorem rowq_open {w : World} {g n : Nat} {F : Nat → Int} (h : RowQ w g n F) : ∃ cs : List Value, Hid (w.heap[g]? = some (.cells cs.toArray 65 (0, 0))) ∧ Hid (∀ i, i < n → cs[i]? = some (.int .u8 (F i))) ∧ n ≤ cs.length := by
  obtain ⟨cs, hg, hc⟩ := h
  refine ⟨cs.toList, hide hg, hide fun i hi => by rw [Array.getElem?_toList]; exact hc i hi, ?_⟩
  rcases Nat.eq_zero_or_pos n with h0 | h0
  · omega
  · have := hc (n - 1) (by omega)
    rcases Nat.lt_or_ge (n - 1) cs.size with h1 | h1
    · simp; omega
    · rw [Array.getElem?_eq_none h1] at this; cases this
/-- What the rounds of Repeat leave: the first m cells are filled. -/
def RepI (w : World) (N m : Nat) (F : Nat → Int) (wr : World) : Prop :=
  (∃ cs : List Value, wr.heap[w.heap.size]? = some (.cells cs.toArray 65 (0, 0)) ∧ N ≤ cs.length ∧ ∀ i, i < m → cs[i]? = some (.int .u8 (F i))) ∧ Below w.heap.size w wr
theorem rep_mod {L m i : Nat} (hL : 0 < L) (hm : m % L = 0) (hi : m ≤ i) : (i - m) % L = i % L := by
  obtain ⟨q, rfl⟩ : ∃ q, m = L * q := ⟨m / L, by have := Nat.div_add_mod m L; omega⟩
  obtain ⟨j, rfl⟩ : ∃ j, i = L * q + j := ⟨i - L * q, by omega⟩
  rw [Nat.add_sub_cancel_left, Nat.mul_add_mod]
set_option maxHeartbeats 2000000 in
theorem repeat_any (A : Option Addr) (a : List Int) (c k N : Nat) (w : World) (h0 : 0 < a.length) (hk : 0 < k) (hN : a.length * k = N) (hN2 : N ≤ 4096) (hA : RQ w A a) :
    Calls Tryz.prog 104 #[.slice A a.length c, .int .i64 k] w (MkQ (ql N fun i => qt a (i % a.length)) w) := by
  have hL : a.length ≤ N := by rw [← hN]; exact Nat.le_mul_of_pos_right _ hk
  have hkN : k ≤ N := by rw [← hN]; exact Nat.le_mul_of_pos_left _ h0
  have hmod : N % a.length = 0 := by rw [← hN]; exact Nat.mul_mod_right _ _
  obtain ⟨L, hLe⟩ : ∃ L, L = a.length := ⟨_, rfl⟩
  obtain ⟨F, hF⟩ : ∃ F : Nat → Int, F = fun i => qt a (i % a.length) := ⟨_, rfl⟩
  have HF := hide hF
  obtain ⟨X, hX⟩ : ∃ X : List Value, X = (List.range L).map fun i => .int .u8 (F i) := ⟨_, rfl⟩
  have hXl : X.length = L := by rw [hX]; simp
  have hX1 : Hid (∀ v ∈ X, v.oneCell' = true) := hide (by rw [hX]; exact bits_one _ _)
  have HX := hide hX
  obtain ⟨ad, rfl, hlt, hc0⟩ := hA h0
  have hsrc : Hid (∀ w', Below w.heap.size w w' → ∀ j v, X[j]? = some v → w'.cell? (ad.add j) = some v) := hide (fun w' hb j v hj => by
    rw [hX, List.getElem?_map] at hj
    rcases Nat.lt_or_ge j L with hjl | hjl
    · rw [List.getElem?_range hjl] at hj
      rw [hb.cell (p := ad.add j) (by rw [block_of_add]; exact hlt), hc0 j (by omega), ← hj, hF]
      simp [Nat.mod_eq_of_lt (show j < a.length by omega)]
    · rw [List.getElem?_eq_none (by simpa using hjl)] at hj; cases hj)
  have hmul := hide fun w => mulb_any L k w (by omega) (by omega)
  rw [← hLe] at hN hL hmod h0 hF ⊢
  rw [hN] at hmul
  rw [← hF]
  clear hX hA hc0 hF
  have hkN2 : (k : Int) ≤ 4096 := by omega
  have HMOD := hide hmod
  have HLE := hide hLe
  have HN := hide hN
  clear hmod hLe hN
  go_enter Tryz.func104, Tryz.ntmps104
  go_wp2_with (first
    | (go_at_call 167; with_reducible refine (hmul.out _).mono ?_; rintro e w' ⟨rfl, rfl⟩)
    | (at_make; refine wpList_make_q _ rfl _ _ rfl _ _ N rfl rfl rfl rfl hN2 ?_; intro w1 hr1 hb1 hz1; obtain ⟨cs, hg, hcs, hlen⟩ := rowq_open hr1; clear hr1)
    | ((show wpList _ _ _ (⟨some 33, _, _, _, _, _⟩ :: _) _ _); refine wpList_copy_splice rfl (.tmp 31) (.tmp 32) 22 22 rfl 65 Tryz.underlying22 bit_size (some ⟨w.heap.size, 0, none⟩) (some ad) N N L c rfl rfl w.heap.size 0 cs 65 hg.out X (hXl.trans (Nat.min_eq_left hL).symm) (fun _ => ⟨rfl, ad, rfl, hsrc.out _ hb1⟩) (by omega) hX1.out w.heap.size w hb1 (Nat.le_refl _) ?_; intro w2 hg2 hb2))
  have hR2 : Hid (RepI w N L F w2) := hide ⟨⟨_, hg2.out, by rw [length_splice _ _ _ (by omega)]; exact hlen, fun i hi => by
    rw [splice_get _ _ _ _ (by omega), if_neg (by omega), if_pos (by omega), HX.out, List.getElem?_map, List.getElem?_range (by simpa using hi)]; rfl⟩, hb2⟩
  clear hg hcs hlen hg2 hb1 hb2
  clear hX1 HX hsrc hXl
  go_loopw [8] (fun v wr => ∃ m : Nat, v = .int .i64 m ∧ L ≤ m ∧ m ≤ N ∧ Hid (m % L = 0 ∨ m = N) ∧ RepI w N m F wr) (fun v _ => N - (intOf v).toNat)
  case atStart => exact ⟨L, rfl, Nat.le_refl _, hL, hide (Or.inl (Nat.mod_self _)), hR2.out⟩
  case round =>
    clear hR2
    obtain ⟨m, rfl, hLm, hmN, hmm, hR⟩ := hrel
    have hRH := hide hR
    obtain ⟨⟨cs, hg, hlen, hcs⟩, hb⟩ := hR
    have Hcs := hide hcs
    have Hg := hide hg
    clear hcs hg
    by_cases hlt : m < N
    · obtain ⟨X, hX⟩ : ∃ X : List Value, X = (List.range (min m (N - m))).map fun i => .int .u8 (F i) := ⟨_, rfl⟩
      have hXl : X.length = min m (N - m) := by rw [hX]; simp
      have HXl := hide hXl
      have hX1 : Hid (∀ v ∈ X, v.oneCell' = true) := hide (by rw [hX]; exact bits_one _ _)
      have HX := hide hX
      have hsrc : Hid (∀ j v, X[j]? = some v → wr.drew.cell? ((⟨w.heap.size, 0, none⟩ : Addr).add j) = some v) := hide fun j v hj => by
        show wr.cell? _ = _
        rw [addr_add, cell_of_row _ _ _ _ _ _ Hg.out, List.getElem?_toArray]
        rw [hX, List.getElem?_map] at hj
        rcases Nat.lt_or_ge j (min m (N - m)) with hjl | hjl
        · rw [List.getElem?_range hjl] at hj
          rw [Hcs.out j (by omega), ← hj]; rfl
        · rw [List.getElem?_eq_none (by simpa using hjl)] at hj; cases hj
      have hfit : Hid (m + X.length ≤ cs.length) := hide (by omega)
      have hne : ¬ N = m := by omega
      have hxl : X.length ≤ 4096 := by omega
      have hwr : IntKind.i64.wrap ((m : Int) + (X.length : Int)) = (m : Int) + X.length := by rw [IntKind.wrap_i64]; omega
      clear hX hXl
      go_wp2_with fail
      refine region_anyT (S := fun _ => True) (n := 9) (by kernel_rfl) trivial (fun hS inv => ?_)
      refine anyT_take (i := 0) (oi := _) (v := Value.int IntKind.i64 ↑m) rfl (by kernel_rfl) (by kernel_rfl) (by kernel_rfl) (by decide) (by decide) (by kernel_rfl) (by kernel_rfl) inv (fun _ _ _ h => h) (Or.inl ⟨by kernel_rfl, ?_⟩) hS (fun inv => ?_)
      · intro wz hSw
        first | kernel_rfl | go_simp
      (try simp only [Act.put, List.getElem_toArray, List.getElem_cons_zero, List.getElem_cons_succ, List.setIfInBounds_toArray, List.set_cons_zero, List.set_cons_succ])
      refine anyT_take (i := 1) (oi := _) (v := Value.slice (some ⟨w.heap.size, 0, none⟩) N N) rfl (by kernel_rfl) (by kernel_rfl) (by kernel_rfl) (by decide) (by decide) (by kernel_rfl) (by kernel_rfl) inv (fun _ _ _ h => h) (Or.inl ⟨by kernel_rfl, ?_⟩) hS (fun inv => ?_)
      · intro wz hSw
        first | kernel_rfl | go_simp
      (try simp only [Act.put, List.getElem_toArray, List.getElem_cons_zero, List.getElem_cons_succ, List.setIfInBounds_toArray, List.set_cons_zero, List.set_cons_succ])
      refine anyT_take (i := 2) (oi := _) (v := Value.int IntKind.i64 ↑m) rfl (by kernel_rfl) (by kernel_rfl) (by kernel_rfl) (by decide) (by decide) (by kernel_rfl) (by kernel_rfl) inv (fun _ _ _ h => h) (Or.inl ⟨by kernel_rfl, ?_⟩) hS (fun inv => ?_)
      · intro wz hSw
        first | kernel_rfl | go_simp
      (try simp only [Act.put, List.getElem_toArray, List.getElem_cons_zero, List.getElem_cons_succ, List.setIfInBounds_toArray, List.set_cons_zero, List.set_cons_succ])
      refine anyT_take (i := 3) (oi := _) (v := Value.slice (some ⟨w.heap.size, m, none⟩) (N - m) (N - m)) rfl (by kernel_rfl) (by kernel_rfl) (by kernel_rfl) (by decide) (by decide) (by kernel_rfl) (by kernel_rfl) inv (fun _ _ _ h => h) (Or.inl ⟨by kernel_rfl, ?_⟩) hS (fun inv => ?_)
      · intro wz hSw
        go_simp
      (try simp only [Act.put, List.getElem_toArray, List.getElem_cons_zero, List.getElem_cons_succ, List.setIfInBounds_toArray, List.set_cons_zero, List.set_cons_succ])
      refine anyT_take (i := 4) (oi := _) (v := Value.slice (some ⟨w.heap.size, 0, none⟩) N N) rfl (by kernel_rfl) (by kernel_rfl) (by kernel_rfl) (by decide) (by decide) (by kernel_rfl) (by kernel_rfl) inv (fun _ _ _ h => h) (Or.inl ⟨by kernel_rfl, ?_⟩) hS (fun inv => ?_)
      · intro wz hSw
        first | kernel_rfl | go_simp
      (try simp only [Act.put, List.getElem_toArray, List.getElem_cons_zero, List.getElem_cons_succ, List.setIfInBounds_toArray, List.set_cons_zero, List.set_cons_succ])
      refine anyT_take (i := 5) (oi := _) (v := Value.int IntKind.i64 ↑m) rfl (by kernel_rfl) (by kernel_rfl) (by kernel_rfl) (by decide) (by decide) (by kernel_rfl) (by kernel_rfl) inv (fun _ _ _ h => h) (Or.inl ⟨by kernel_rfl, ?_⟩) hS (fun inv => ?_)
      · intro wz hSw
        first | kernel_rfl | go_simp
      (try simp only [Act.put, List.getElem_toArray, List.getElem_cons_zero, List.getElem_cons_succ, List.setIfInBounds_toArray, List.set_cons_zero, List.set_cons_succ])
      refine anyT_take (i := 6) (oi := _) (v := Value.slice (some ⟨w.heap.size, 0, none⟩) m N) rfl (by kernel_rfl) (by kernel_rfl) (by kernel_rfl) (by decide) (by decide) (by kernel_rfl) (by kernel_rfl) inv (fun _ _ _ h => h) (Or.inl ⟨by kernel_rfl, ?_⟩) hS (fun inv => ?_)
      · intro wz hSw
        go_simp
      (try simp only [Act.put, List.getElem_toArray, List.getElem_cons_zero, List.getElem_cons_succ, List.setIfInBounds_toArray, List.set_cons_zero, List.set_cons_succ])
      refine anyT_ready (rs := [7]) (by kernel_rfl) (by simp) ?_
      refine ReadyT.head (o := _) rfl (by decide) (by kernel_rfl) inv (fun K hK => ?_) ReadyT.nil
      refine step_copy_splice (by rfl) (.tmp 41) (.tmp 44) 22 22 (by rfl) 65 Tryz.underlying22 bit_size (some ⟨w.heap.size, m, none⟩) (some ⟨w.heap.size, 0, none⟩) (N - m) (N - m) m N (by kernel_rfl) (by kernel_rfl) w.heap.size m cs 65 Hg.out X HXl.out (fun _ => ⟨rfl, _, rfl, hsrc.out⟩) hfit.out hX1.out w.heap.size w hb.drew (Nat.le_refl _) ?_
      intro w4 hg4 hb4
      simp only [goInt]
      refine hK.out _ _ ?_ (fun hS inv => ?_)
      · exact trivial
      clear hK K
      (try simp only [Act.put, List.getElem_toArray, List.getElem_cons_zero, List.getElem_cons_succ, List.setIfInBounds_toArray, List.set_cons_zero, List.set_cons_succ])
      refine anyT_take (i := 8) (oi := _) (v := Value.int IntKind.i64 (m + X.length : Nat)) rfl (by kernel_rfl) (by kernel_rfl) (by kernel_rfl) (by decide) (by decide) (by kernel_rfl) (by kernel_rfl) inv (fun _ _ _ h => h) (Or.inl ⟨by kernel_rfl, ?_⟩) hS (fun inv => ?_)
      · intro wz hSw
        go_simp
      (try simp only [Act.put, List.getElem_toArray, List.getElem_cons_zero, List.getElem_cons_succ, List.setIfInBounds_toArray, List.set_cons_zero, List.set_cons_succ])
      refine anyT_ready (rs := [9]) (by kernel_rfl) (by simp) ?_
      refine ReadyT.tail (o := _) rfl (by decide) (fun K hK => ?_)
      go_simp
      refine hK.out _ _ ?_
      clear hK K
      (try simp only [Act.put, List.getElem_toArray, List.getElem_cons_zero, List.getElem_cons_succ, List.setIfInBounds_toArray, List.set_cons_zero, List.set_cons_succ])
      refine anyT_done (by kernel_rfl) ?_ _
      go_wp2
      go_roundw
      case rel => exact ⟨m + X.length, by go_num, by omega, by have := HXl.out; omega, hide (by
        have h1 := HXl.out
        rcases hmm.out with h2 | h2
        · rcases Nat.le_total m (N - m) with h3 | h3
          · left; rw [h1, Nat.min_eq_left h3, Nat.add_mod, h2]; simp
          · right; omega
        · omega), ⟨⟨_, hg4.out, by rw [length_splice _ _ _ hfit.out]; exact hlen, fun i hi => by
        rw [splice_get _ _ _ _ hfit.out]
        by_cases h1 : i < m
        · rw [if_pos h1]; exact Hcs.out i h1
        · rw [if_neg h1, if_pos hi, HX.out, List.getElem?_map, List.getElem?_range (by rw [← HXl.out]; omega)]
          have h2 : m % L = 0 := by rcases hmm.out with h2 | h2 <;> omega
          rw [HF.out, ← HLE.out, Option.map_some]
          simp only [rep_mod h0 h2 (Nat.le_of_not_lt h1)]⟩, hb4⟩⟩
      case measure => simp [intOf]; have := HXl.out; omega
    · have e : m = N := by omega
      subst e
      go_wp2
      go_ret
      obtain ⟨⟨cs', hg', hl', hc'⟩, hb'⟩ := hRH.out
      exact MkQ.mk_row (F := F) ⟨_, hg', fun i hi => by rw [List.getElem?_toArray]; exact hc' i hi⟩ rfl (Nat.le_refl _) hb' (Nat.le_refl _) (max_4096 hN2)
theorem repeat_q (A : Option Addr) (a : List Int) (c k N : Nat) (w : World) (h0 : 0 < a.length) (hk : 0 < k) (hN : a.length * k = N) (hN2 : N ≤ 4096) (hA : RQ w A a) :
    Calls Tryz.prog 104 #[.slice A a.length c, .int .i64 k] w (RetQP (· = ql N fun i => qt a (i % a.length)) w) :=
  (repeat_any A a c k N w h0 hk hN hN2 hA).mono fun _ _ h => RetQP.of_mkV rfl h
theorem unknown_any (n : Nat) (s : Bool) (w : World) (h0 : 0 < n) (hn : n ≤ 4096) :
    Calls Tryz.prog 100 #[.int .i64 n, .bool s] w (RetC (· = xs n s) w) := by
  go_enter Tryz.func100, Tryz.ntmps100
  go_wp2_with fail
  refine (repeat_q (some ⟨w.heap.size + 1, 0, none⟩) [2] 1 n n _ (by simp) h0 (by simp) hn (by have h := one_rq (w.alloc (.cells #[.slice none 0 0, .bool false] 24)) 2; simpa using h)).mono ?_
  rintro e w1 ⟨l1, A1, c1, E1, rfl, C1, O1, hb⟩
  replace O1 := hide (O1.out.base (show w.heap.size + 2 ≤ _ by first | omega | (simp; omega) | (simp; done)))
  have hB1 : Below w.heap.size w w1 := Below.trans belo (hb.mono (by first | omega | (simp; done) | (simp; omega)))
  obtain ⟨kc1, kf1⟩ := bcell hb
  have hz1 := hb.size
  (try simp at hz1)
  have n1_0 : w.heap.size < w1.heap.size := by omega
  have n1_1 : w.heap.size + 1 < w1.heap.size := by omega
  have r1_0 : w1.cell? ⟨w.heap.size, 0, none⟩ = some (.slice none 0 0) := (kc1 _ _ (by first | assumption | (simp; done) | omega | (simp; omega))).trans (by first | assumption | (simp [go_sem]; done) | (simp; done))
  have g1_0 : w1.frozen? ⟨w.heap.size, 0, none⟩ = false := (kf1 _ _ (by first | assumption | (simp; done) | omega | (simp; omega))).trans (by first | assumption | (simp [go_sem]; done) | (simp; done))
  have r1_1 : w1.cell? ⟨w.heap.size, 1, none⟩ = some (.bool false) := (kc1 _ _ (by first | assumption | (simp; done) | omega | (simp; omega))).trans (by first | assumption | (simp [go_sem]; done) | (simp; done))
  have g1_1 : w1.frozen? ⟨w.heap.size, 1, none⟩ = false := (kf1 _ _ (by first | assumption | (simp; done) | omega | (simp; omega))).trans (by first | assumption | (simp [go_sem]; done) | (simp; done))
  clear hb
  go_wp2
  refine bodyPost_ret (v := .agg #[.slice A1 l1.length c1, .bool s]) (by simp [results, Tryz.results100, go_sem, *]) rfl ?_
  exact ⟨l1, s, A1, c1, hide (by rw [E1.out]; unfold xs; exact Vc.ext' (ql_congr fun i hi => by simp [Nat.mod_one, qt]) rfl), rfl, C1, hide (OwQ.base (B := w.heap.size + 2) (by (repeat (first | with_reducible exact O1.out | with_reducible refine OwQ.far ?_ (by first | (simp; done) | omega | (simp; omega)) _ | with_reducible refine OwQ.allc ?_ _ | with_reducible refine OwQ.drew ?_ | with_reducible refine OwQ.drewN ?_ _))) (by omega)), belo⟩
/-- A round of a loop that fills a new row g. -/
structure FillG (w1 : World) (g n k : Nat) (f : Nat → Int) (wr : World) : Prop where
  row : RowQ wr g n (ParQ k f)
  bel : Below g w1 wr
theorem FillG.step {w1 wr : World} {g n k : Nat} {f : Nat → Int} (h : FillG w1 g n k f wr) : FillG w1 g n (k + 1) f (wr.setCell ⟨g, k, none⟩ (.int .u8 (f k))) where
  row := (h.row.set_ k _).congr fun j _ => ParQ.step k f j
  bel := h.bel.setCell (by simp) _
theorem FillG.start {w1 : World} {g n : Nat} {f : Nat → Int} (h : RowQ w1 g n (fun _ => 0)) : FillG w1 g n 0 f w1 := ⟨h.congr fun j _ => by simp [ParQ], Below.refl _ _⟩
theorem FillG.done {w1 wr : World} {g n : Nat} {f : Nat → Int} (h : FillG w1 g n n f wr) : RowQ wr g n f := h.row.congr fun j hj => by simp [ParQ, hj]
theorem bcellG {B : Nat} {W w1 : World} (hb : Below B W w1) : (∀ b o, b < B → w1.cell? ⟨b, o, none⟩ = W.cell? ⟨b, o, none⟩) ∧ (∀ b o, b < B → w1.frozen? ⟨b, o, none⟩ = W.frozen? ⟨b, o, none⟩) :=
  ⟨fun b o h => hb.cell (p := ⟨b, o, none⟩) h, fun b o h => hb.frozen (p := ⟨b, o, none⟩) h⟩
set_option maxHeartbeats 1000000 in
theorem vector_any (A : Option Addr) (a : List Bool) (c : Nat) (s : Bool) (w : World) (ha : a.length ≤ 4096) (hA : Rd w A a) :
    Calls Tryz.prog 96 #[.slice A a.length c, .bool s] w (RetC (· = ⟨fb a, s⟩) w) := by
  have HA := hide hA
  clear hA
  go_enter Tryz.func96, Tryz.ntmps96
  go_wp2_with (at_make; refine wpList_make_q _ rfl _ _ rfl _ _ a.length rfl rfl rfl rfl ha ?_; intro w1 hr1 hb1 hz1)
  have hr2 : RowQ w1 (w.heap.size + 1) a.length fun _ => 0 := by simpa using hr1
  have hb2 : Below (w.heap.size + 1) (w.alloc (.cells #[.slice none 0 0, .bool false] 24)) w1 := by simpa using hb1
  have hb0 : Below w.heap.size w w1 := Below.trans belo (hb2.mono (by omega))
  obtain ⟨kc1, kf1⟩ := bcellG hb2
  clear hr1 hb1 hz1
  go_loopw [13] (fun i wr => ∃ k : Nat, k ≤ a.length ∧ i = .int .i64 k ∧ FillG w1 (w.heap.size + 1) a.length k (fun i => mFrom (bt a i)) wr) (fun i _ => a.length - (intOf i).toNat)
  case atStart => exact ⟨0, Nat.zero_le _, rfl, FillG.start hr2⟩
  case round =>
    obtain ⟨k, hk, rfl, hR⟩ := hrel
    have hRH := hide hR
    by_cases hlt : k < a.length
    · obtain ⟨ad, rfl, hlt1, hc0⟩ := HA.out.at_ hlt
      have hc : wr.cell? (ad.add k) = some (.bool (bt a k)) := ((hb0.trans (hR.bel.mono (by omega))).cell (p := ad.add k) (by rw [block_of_add]; exact hlt1)).trans hc0
      have hcg : wr.cell? ⟨w.heap.size + 1, k, none⟩ = some (.int .u8 (ParQ k (fun i => mFrom (bt a i)) k)) := hR.row.cell hlt
      have hf : wr.frozen? ⟨w.heap.size + 1, k, none⟩ = false := hR.row.free k
      clear hR
      go_wp2_with (go_at_call 57; refine (from_q _ _).mono ?_; rintro e w' ⟨rfl, rfl⟩)
      go_roundw
      case rel => exact ⟨k + 1, by omega, by go_num, hRH.out.step⟩
      case measure => simp [intOf]; omega
    · have e : k = a.length := by omega
      subst e
      obtain ⟨kcB, kfB⟩ := bcellG hR.bel
      have hBr : Below w.heap.size w wr := hb0.trans (hR.bel.mono (by omega))
      clear hR
      go_wp2
      refine bodyPost_ret (v := .agg #[.slice (some ⟨w.heap.size + 1, 0, none⟩) a.length a.length, .bool s]) (by simp [results, Tryz.results96, go_sem, *]) rfl ?_
      exact ⟨fb a, s, some ⟨w.heap.size + 1, 0, none⟩, a.length, hide rfl, by rw [fb_length], hide (by rw [fb_length]; exact ⟨Nat.le_refl _, max_4096 ha⟩), hide fun _ => ⟨_, rfl, by omega, by
        rw [fb_length]
        exact (((hRH.out.done.congr fun i hi => by unfold fb; rw [qt_ql_lt hi]).far (by simp) _).far (by simp) _)⟩, belo⟩
end
section
open Go.RowKit
set_option maxRecDepth 100000
set_option linter.unusedSimpArgs false
set_option linter.unusedVariables false
theorem fld0 (A : Option Addr) (n c : Nat) (s : Bool) (w : World) : (Instr.field 24 (.agg #[.slice A n c, .bool s]) 0).run Tryz.prog w = .ok (.slice A n c) w := by kernel_rfl
set_option maxHeartbeats 1000000 in
theorem reduce_any (N : Nat) (f : Int → Int → Int) (hop : OpF N f) (A : Option Addr) (a : List Int) (c : Nat) (s : Bool) (w : World) (ha : a.length ≤ 4096) (hca : Hid (a.length ≤ c ∧ c ≤ maxLen)) (hA : RQ w A a) (ya : By a) (ht : Tabs w) :
    Calls Tryz.prog 144 #[.agg #[.slice A a.length c, .bool s], .func (.func N) #[] #[]] w (Mk (.int .u8 (red f ⟨a, s⟩)) w) := by
  have hcf : ∀ args w, (callFunc N args).run Tryz.prog w = .ok (.enter N args) w := hop.cf
  have HO := hide hop
  have hfld := fld0
  have HT := hide ht
  have HA := hide hA
  have LA := hide ha
  have YA := hide ya
  clear hA ha ya
  clear hop ht
  obtain ⟨R, hR⟩ : ∃ R, R = red f ⟨a, s⟩ := ⟨_, rfl⟩
  rw [← hR]
  have HR := hide hR
  clear hR
  go_enter Tryz.func144, Tryz.ntmps144
  go_wp2_with fail
  refine (counted_any A a c s w _ LA.out hca HA.out belo).mono ?_
  rintro e w1 ⟨l1, s1, A1, c1, E1, rfl, C1, O1, hb⟩
  replace O1 := hide (O1.out.lower (show w.heap.size + 1 ≤ _ by first | omega | (simp; omega) | (simp; done)))
  have hB1 : Below w.heap.size w w1 := Below.trans belo (hb.mono (by first | omega | (simp; done) | (simp; omega)))
  obtain ⟨kc1, kf1⟩ := bcell hb
  have hz1 := hb.size
  (try simp at hz1)
  have n1_0 : w.heap.size < w1.heap.size := by omega
  clear hb
  have G1 : Gd l1 := by have h := cnt_gd (v := ⟨a, s⟩) YA.out; rw [← E1.out] at h; exact h
  have p1 := G1.pos
  have p2 := G1.le
  obtain ⟨ad, rfl, hlt, _, hc0⟩ := O1.out G1.pos
  have HC0 := hide hc0
  have h00 := hc0 0 G1.pos
  have e00 : ad.add 0 = ad := by cases ad; simp [Addr.add]
  rw [e00] at h00
  clear hc0
  have HT1 := hide (HT.out.kept hB1)
  go_wp2_with fail
  refine (buf_q _ _ ((G1.bd 0).1) HT1.out.tb).mono ?_
  rintro e w' ⟨rfl, nd, rfl⟩
  obtain ⟨m, hm⟩ : ∃ m, l1.length = m + 1 := ⟨l1.length - 1, by omega⟩
  have HM := hide hm
  rw [hm]
  have hm2 : m ≤ 127 := by omega
  clear hm p1 p2
  have hm1 : m + 1 ≤ c1 := by have := C1.out.1; have := HM.out; omega
  have hr1 : Hid (∀ k, 0 ≤ rd f l1 k ∧ rd f l1 k ≤ 3) := hide fun k => by
    induction k with
    | zero => exact bd_of3 (mBuf_3 _)
    | succ k ih => exact HO.out.bd _ _ ih (G1.bd _)
  have HG1 := hide G1
  have e2 : red f ⟨a, s⟩ = rd f l1 m := by unfold red; rw [← E1.out]; show rd f l1 (l1.length - 1) = _; rw [HM.out]; rfl
  have E2 := hide (HR.out.trans e2)
  clear e2 G1
  go_wp2_with fail
  all_goals
    go_loopw [6, 19] (fun v i wr => ∃ k : Nat, k ≤ m ∧ i = .int .i64 k ∧ v = .int .u8 (rd f l1 k) ∧ ∃ n, wr = w1.drewN n) (fun _ i _ => m - (intOf i).toNat)
    case atStart => exact ⟨0, Nat.zero_le _, rfl, rfl, _, rfl⟩
    case round =>
      obtain ⟨k, hk, rfl, rfl, n, rfl⟩ := hrel
      by_cases hlt : k < m
      · first
          | (exfalso; omega)
          | (have hc := HC0.out (k + 1) (by have := HM.out; omega)
             have ea : ad.add (k + 1) = ⟨ad.block, ad.off + 1 + k, none⟩ := by unfold Addr.add; rw [if_neg (by omega)]; first | (simp; done) | (simp; omega)
             rw [ea] at hc
             clear ea
             have hcall := hide (HO.out.ct (rd f l1 k) (qt l1 (k + 1)) (w1.drewN n) (hr1.out k).1 (HG1.out.bd _).1 (HT1.out.drewN n))
             go_wp2_with ((with_reducible refine (hcall.out).mono ?_); rintro e w' ⟨rfl, n2, rfl⟩)
             go_roundw
             case rel => exact ⟨k + 1, by omega, by go_num, rfl, _, rfl⟩
             case measure => simp [intOf]; omega)
      · have e : k = m := by omega
        subst e
        go_wp2
        go_ret
        exact ⟨by rw [E2.out]; rfl, belo⟩
theorem truth_any (A : Option Addr) (a : List Int) (c : Nat) (s : Bool) (w : World) (ha : a.length ≤ 4096) (hca : Hid (a.length ≤ c ∧ c ≤ maxLen)) (hA : RQ w A a) (ya : By a) (ht : Tabs w) :
    Calls Tryz.prog 111 #[.agg #[.slice A a.length c, .bool s]] w (Mk (.int .u8 (tr ⟨a, s⟩)) w) := by
  have HA := hide hA
  have LA := hide ha
  have YA := hide ya
  clear hA ha ya
  have HT := hide ht
  clear ht
  go_enter Tryz.func111, Tryz.ntmps111
  go_wp2_with fail
  refine (reduce_any _ _ opF_or A a c s _ LA.out hca (HA.out.below belo) YA.out (HT.out.kept belo)).mono ?_
  rintro e w1 ⟨rfl, hb⟩
  have hB1 : Below w.heap.size w w1 := Below.trans belo (hb.mono (by first | omega | (simp; done) | (simp; omega)))
  obtain ⟨kc1, kf1⟩ := bcell hb
  have hz1 := hb.size
  (try simp at hz1)
  have n1_0 : w.heap.size < w1.heap.size := by omega
  clear hb
  go_wp2
  go_ret
  exact ⟨rfl, belo⟩
theorem vRedAnd_any (A : Option Addr) (a : List Int) (c : Nat) (s : Bool) (w : World) (ha : a.length ≤ 4096) (hca : Hid (a.length ≤ c ∧ c ≤ maxLen)) (hA : RQ w A a) (ya : By a) (ht : Tabs w) :
    Calls Tryz.prog 66 #[.agg #[.slice A a.length c, .bool s]] w (RetC (· = sgl (red mAnd ⟨a, s⟩)) w) := by
  have HA := hide hA
  have LA := hide ha
  have YA := hide ya
  clear hA ha ya
  have HT := hide ht
  clear ht
  go_enter Tryz.func66, Tryz.ntmps66
  go_wp2_with fail
  refine (reduce_any _ _ opF_and A a c s _ LA.out hca (HA.out.below belo) YA.out (HT.out.kept belo)).mono ?_
  rintro e w1 ⟨rfl, hb⟩
  have hB1 : Below w.heap.size w w1 := Below.trans belo (hb.mono (by first | omega | (simp; done) | (simp; omega)))
  obtain ⟨kc1, kf1⟩ := bcell hb
  have hz1 := hb.size
  (try simp at hz1)
  have n1_0 : w.heap.size < w1.heap.size := by omega
  have n1_1 : w.heap.size + 1 < w1.heap.size := by omega
  have r1_0 : w1.cell? ⟨w.heap.size + 1, 0, none⟩ = some (.slice none 0 0) := (kc1 _ _ (by first | assumption | (simp; done) | omega | (simp; omega))).trans (by first | assumption | (simp; done))
  have g1_0 : w1.frozen? ⟨w.heap.size + 1, 0, none⟩ = false := (kf1 _ _ (by first | assumption | (simp; done) | omega | (simp; omega))).trans (by first | assumption | (simp; done))
  have r1_1 : w1.cell? ⟨w.heap.size + 1, 1, none⟩ = some (.bool false) := (kc1 _ _ (by first | assumption | (simp; done) | omega | (simp; omega))).trans (by first | assumption | (simp; done))
  have g1_1 : w1.frozen? ⟨w.heap.size + 1, 1, none⟩ = false := (kf1 _ _ (by first | assumption | (simp; done) | omega | (simp; omega))).trans (by first | assumption | (simp; done))
  clear hb
  go_wp2_with fail
  refine (single_any _ _).mono ?_
  rintro e w2 ⟨l1, s1, A1, c1, E1, rfl, C1, O1, hb⟩
  replace O1 := hide (O1.out.base (show w.heap.size + 2 ≤ _ by first | omega | (simp; omega) | (simp; done)))
  have hB2 : Below w.heap.size w w2 := Below.trans belo (hb.mono (by first | omega | (simp; done) | (simp; omega)))
  obtain ⟨kc2, kf2⟩ := bcell hb
  have hz2 := hb.size
  (try simp at hz2)
  have n2_0 : w.heap.size < w2.heap.size := by omega
  have n2_1 : w.heap.size + 1 < w2.heap.size := by omega
  have r2_0 : w2.cell? ⟨w.heap.size + 1, 0, none⟩ = some (.slice none 0 0) := (kc2 _ _ (by first | assumption | (simp; done) | omega | (simp; omega))).trans (by first | assumption | (simp; done))
  have g2_0 : w2.frozen? ⟨w.heap.size + 1, 0, none⟩ = false := (kf2 _ _ (by first | assumption | (simp; done) | omega | (simp; omega))).trans (by first | assumption | (simp; done))
  have r2_1 : w2.cell? ⟨w.heap.size + 1, 1, none⟩ = some (.bool false) := (kc2 _ _ (by first | assumption | (simp; done) | omega | (simp; omega))).trans (by first | assumption | (simp; done))
  have g2_1 : w2.frozen? ⟨w.heap.size + 1, 1, none⟩ = false := (kf2 _ _ (by first | assumption | (simp; done) | omega | (simp; omega))).trans (by first | assumption | (simp; done))
  clear hb
  go_wp2
  refine bodyPost_ret (v := .agg #[.slice A1 l1.length c1, .bool s1]) (by simp [results, Tryz.results66, go_sem, *]) rfl ?_
  exact ⟨l1, s1, A1, c1, hide (E1.out), rfl, C1, hide (OwQ.base (B := w.heap.size + 2) (by (repeat (first | with_reducible exact O1.out | with_reducible refine OwQ.far ?_ (by first | (simp; done) | omega | (simp; omega)) _ | with_reducible refine OwQ.allc ?_ _ | with_reducible refine OwQ.drew ?_ | with_reducible refine OwQ.drewN ?_ _))) (by omega)), belo⟩
theorem by_of_gd {v : Vc} {l : List Int} {s : Bool} (e : (⟨l, s⟩ : Vc) = v) (h : Gd v.b) : By l := by rw [← e] at h; exact h.by_
theorem len_of_gd {v : Vc} {l : List Int} {s : Bool} (e : (⟨l, s⟩ : Vc) = v) (h : Gd v.b) : 0 < l.length ∧ l.length ≤ 128 := by rw [← e] at h; exact ⟨h.pos, h.le⟩
end
section
open Go.RowKit
set_option maxRecDepth 100000
set_option linter.unusedSimpArgs false
set_option linter.unusedVariables false
/-- The answer of an operation that may fail: its error and its number. -/
def Res (r : Option (List Bool)) (E : Int) (l : List Bool) : Prop := match r with | some v => E = 0 ∧ l = v | none => E ≠ 0
/-- What an operation on numbers leaves: an answer, or none and an error. -/
def RetO (r : Option (List Bool)) (w : World) (e : Ending) (w' : World) : Prop :=
  ∃ l A c E, e = .returned (.tuple #[.slice A l.length c, .int .i64 E]) ∧ Hid (Res r E l) ∧ Hid (Rd w' A l) ∧ Below w.heap.size w w'
/-- A function value on two numbers of one width. -/
structure OpN (N : Nat) (f : List Bool → List Bool → Bool → Option (List Bool)) (x : Array Value) (w0 : World) : Prop where
  cf : Ent N
  ct : ∀ A B m n c d s w, Below w0.heap.size w0 w → m.length ≤ 4096 → n.length ≤ 4096 → Rd w A m → Rd w B n → Calls Tryz.prog N (#[.slice A m.length c, .slice B n.length d, .bool s] ++ x) w (RetO (f m n s) w)
/-- A plain function on two numbers. -/
structure OpB (N : Nat) (f : List Bool → List Bool → List Bool) : Prop where
  cf : Ent N
  ct : ∀ A B m n c d w, m.length ≤ 4096 → n.length ≤ 4096 → Rd w A m → Rd w B n → Calls Tryz.prog N #[.slice A m.length c, .slice B n.length d] w (MkV (f m n) w)
theorem opB_add : OpB 121 (fun m n => vz m.length ((nv m : Int) + nv n)) := ⟨Tryz.call121, fun A B m n c d w h1 h2 h3 h4 => add_any A B m n c d w h1 h2 h3 h4⟩
theorem total_any (N : Nat) (w : World) : Calls Tryz.prog 120 #[.func (.func N) #[] #[]] w fun e w' => e = .returned (.func (.func 173) #[] #[.pointer (some ⟨w.heap.size, 0, none⟩)]) ∧ w' = w.alloc (.cells #[.func (.func N) #[] #[]] 104) := by
  go_enter Tryz.func120, Tryz.ntmps120
  go_wp2
  go_ret
  exact ⟨rfl, rfl⟩
/-- A closure of total, its operation in a cell of its own. -/
theorem opN_total {N : Nat} {f : List Bool → List Bool → List Bool} (hop : OpB N f) {g : Nat} {w0 : World} (hg : g < w0.heap.size) (hc : w0.cell? ⟨g, 0, none⟩ = some (.func (.func N) #[] #[])) : OpN 173 (fun m n _ => some (f m n)) #[.pointer (some ⟨g, 0, none⟩)] w0 := by
  refine ⟨Tryz.call173, fun A B m n c d s w hB h1 h2 h3 h4 => ?_⟩
  show Calls _ _ #[.slice A m.length c, .slice B n.length d, .bool s, .pointer (some ⟨g, 0, none⟩)] _ _
  have hcf : ∀ args w, (callFunc N args).run Tryz.prog w = .ok (.enter N args) w := hop.cf
  have hc1 : w.cell? ⟨g, 0, none⟩ = some (.func (.func N) #[] #[]) := (hB.cell (p := ⟨g, 0, none⟩) hg).trans hc
  have hcall := hide (hop.ct A B m n c d w h1 h2 h3 h4)
  clear hop hB h3 h4 hc
  go_enter Tryz.func173, Tryz.ntmps173
  go_wp2_with ((with_reducible refine (hcall.out).mono ?_); rintro e w1 ⟨R, rc, rfl, k1, k2, ho, hb⟩; have K1 := hide k1; have K2 := hide k2; clear k1 k2)
  go_ret2
  exact ⟨f m n, R, rc, 0, rfl, hide ⟨rfl, rfl⟩, hide ho.rd, hb⟩
theorem nv_pos_of {n : List Bool} (h : ¬ nv n = 0) : 0 < nv n := by omega
/-- divide: both results, or an error. -/
def RetDv (q r : Option (List Bool)) (w : World) (e : Ending) (w' : World) : Prop :=
  ∃ l A c m B d E, e = .returned (.tuple #[.slice A l.length c, .slice B m.length d, .int .i64 E]) ∧ Hid (Res q E l) ∧ Hid (Res r E m) ∧ Hid (Rd w' A l) ∧ Hid (Rd w' B m) ∧ Below w.heap.size w w'
theorem divide_any' (A B : Option Addr) (m n : List Bool) (c d : Nat) (s : Bool) (w : World) (h1 : m.length ≤ 4096) (h2 : n.length ≤ 4096) (h3 : Rd w A m) (h4 : Rd w B n) :
    Calls Tryz.prog 129 #[.slice A m.length c, .slice B n.length d, .bool s] w (RetDv (fDiv m n s) (fMod m n s) w) := by
  have H3 := hide h3
  have H4 := hide h4
  clear h3 h4
  by_cases hz : nv n = 0
  · have e1 : fDiv m n s = none := by unfold fDiv; rw [if_pos hz]
    have e2 : fMod m n s = none := by unfold fMod; rw [if_pos hz]
    rw [e1, e2]
    have HZ := hide hz
    clear hz e1 e2
    cases s
    · go_enter Tryz.func129, Tryz.ntmps129
      go_wp2_with (go_at_call 178; (with_reducible refine (div_zero A B m n c d _ h1 h2 H4.out HZ.out).mono ?_); rintro e w' ⟨rfl, rfl⟩)
      go_ret3
      exact ⟨[], none, 0, [], none, 0, 7, rfl, hide (show (7 : Int) ≠ 0 by decide), hide (show (7 : Int) ≠ 0 by decide), hide (fun h => absurd h (by simp)), hide (fun h => absurd h (by simp)), Below.refl _ _⟩
    · go_enter Tryz.func129, Tryz.ntmps129
      go_wp2_with (go_at_call 177; (with_reducible refine (sdiv_zero A B m n c d _ h1 h2 H3.out H4.out HZ.out).mono ?_); rintro e w' ⟨rfl, hb⟩)
      go_ret3
      exact ⟨[], none, 0, [], none, 0, 7, rfl, hide (show (7 : Int) ≠ 0 by decide), hide (show (7 : Int) ≠ 0 by decide), hide (fun h => absurd h (by simp)), hide (fun h => absurd h (by simp)), hb⟩
  · have e1 : fDiv m n s = some (vz m.length (if s then (sv m).tdiv (sv n) else ((nv m / nv n : Nat) : Int))) := by unfold fDiv; rw [if_neg hz]
    have e2 : fMod m n s = some (vz m.length (if s then (sv m).tmod (sv n) else ((nv m % nv n : Nat) : Int))) := by unfold fMod; rw [if_neg hz]
    rw [e1, e2]
    have HZ := hide (nv_pos_of hz)
    clear hz e1 e2
    cases s
    · have hcall := hide (div_any A B m n c d w h1 h2 H3.out H4.out HZ.out)
      go_enter Tryz.func129, Tryz.ntmps129
      go_wp2_with (go_at_call 178; (with_reducible refine (hcall.out).mono ?_); rintro e w' ⟨Q, qc, R, rc, rfl, k1, k2, k3, k4, oq, or_, hb⟩; have OQ := hide oq; have OR := hide or_; have K1 := hide k1; have K2 := hide k3; clear oq or_ k1 k2 k3 k4)
      go_ret3
      exact ⟨_, Q, qc, _, R, rc, 0, rfl, hide ⟨rfl, by simp⟩, hide ⟨rfl, by simp⟩, hide OQ.out.rd, hide OR.out.rd, hb⟩
    · have hcall := hide (sdiv_any A B m n c d w h1 h2 H3.out H4.out HZ.out)
      go_enter Tryz.func129, Tryz.ntmps129
      go_wp2_with (go_at_call 177; (with_reducible refine (hcall.out).mono ?_); rintro e w' ⟨Q, qc, R, rc, rfl, k1, k2, k3, k4, oq, or_, hb⟩; have OQ := hide oq; have OR := hide or_; have K1 := hide k1; have K2 := hide k3; clear oq or_ k1 k2 k3 k4)
      go_ret3
      exact ⟨_, Q, qc, _, R, rc, 0, rfl, hide ⟨rfl, by simp⟩, hide ⟨rfl, by simp⟩, hide OQ.out.rd, hide OR.out.rd, hb⟩
theorem opN_div (w0 : World) : OpN 128 fDiv #[] w0 := by
  refine ⟨Tryz.call128, fun A B m n c d s w hB h1 h2 h3 h4 => ?_⟩
  show Calls _ _ #[.slice A m.length c, .slice B n.length d, .bool s] _ _
  have hcall := hide (divide_any' A B m n c d s w h1 h2 h3 h4)
  clear hB h3 h4
  go_enter Tryz.func128, Tryz.ntmps128
  go_wp2_with (go_at_call 129; (with_reducible refine (hcall.out).mono ?_); rintro e w1 ⟨l, A2, c2, m2, B2, d2, E, rfl, h5, -, h6, -, hb⟩)
  go_ret2
  exact ⟨l, A2, c2, E, rfl, h5, h6, hb⟩
end
section
open Go.RowKit
set_option maxRecDepth 100000
set_option linter.unusedSimpArgs false
set_option linter.unusedVariables false
theorem number_q (A : Option Addr) (a : List Int) (c : Nat) (w : World) (ha : a.length ≤ 4096) (hA : RQ w A a) :
    Calls Tryz.prog 117 #[.slice A a.length c] w (RetP (· = nb a) w) := (number_any A a c w ha hA).mono fun _ _ h => RetP.of_mkV rfl h
set_option maxHeartbeats 2000000 in
theorem arith0_any (N : Nat) (f : List Bool → List Bool → Bool → Option (List Bool)) (A B : Option Addr) (a b : List Int) (c d : Nat) (s t : Bool) (w : World) (ha : a.length ≤ 4096) (hb : b.length ≤ 4096) (hca : Hid (a.length ≤ c ∧ c ≤ maxLen)) (hcb : Hid (b.length ≤ d ∧ d ≤ maxLen)) (hA : RQ w A a) (hB : RQ w B b) (ya : By a) (yb : By b) (hop : OpN N f #[] w) (hlen : ∀ m n s l, f m n s = some l → l.length = m.length) :
    Calls Tryz.prog 119 #[.agg #[.slice A a.length c, .bool s], .agg #[.slice B b.length d, .bool t], .func (.func N) #[] #[]] w (RetC (· = ar f ⟨a, s⟩ ⟨b, t⟩) w) := by
  have hcf : ∀ args w, (callFunc N args).run Tryz.prog w = .ok (.enter N args) w := hop.cf
  have hct := hide (fun A B m n c d s W hW h1 h2 h3 h4 => (show Calls Tryz.prog N #[.slice A m.length c, .slice B n.length d, .bool s] W (RetO (f m n s) W) from hop.ct A B m n c d s W hW h1 h2 h3 h4))
  have HL := hide hlen
  have hwd := wd_bd (a := ⟨a, s⟩) (b := ⟨b, t⟩) ya yb
  have HA := hide hA
  have HBB := hide hB
  have LA := hide ha
  have LB := hide hb
  have YA := hide ya
  have YB := hide yb
  clear hA hB ha hb ya yb
  clear hop hlen
  obtain ⟨n, hn⟩ : ∃ n, n = wd ⟨a, s⟩ ⟨b, t⟩ := ⟨_, rfl⟩
  have hcall := hide fun W (hW : Below w.heap.size w W) => balance_any A B a b c d s t W LA.out LB.out hca hcb (HA.out.below hW) (HBB.out.below hW) YA.out YB.out
  unfold RetB at hcall
  obtain ⟨σ, hσ⟩ : ∃ σ, σ = sg ⟨a, s⟩ ⟨b, t⟩ := ⟨_, rfl⟩
  rw [← hσ] at hcall
  obtain ⟨R, hR⟩ : ∃ R, R = ar f ⟨a, s⟩ ⟨b, t⟩ := ⟨_, rfl⟩
  rw [← hR]
  unfold ar at hR
  rw [← hn, ← hσ] at hR
  rw [← hn] at hwd
  have HN := hide hn
  have HR := hide hR
  clear hn hσ hR
  go_enter Tryz.func119, Tryz.ntmps119
  go_wp2_with fail
  refine (hcall.out _ belo).mono ?_
  rintro e w1 ⟨p, P, pc, q, Q, qc, Ep, Eq, rfl, Cp, Cq, Op, Oq, -, hb⟩
  replace Op := hide (Op.out.base (show w.heap.size + 3 ≤ _ by first | omega | (simp; omega) | (simp; done)))
  replace Oq := hide (Oq.out.base (show w.heap.size + 3 ≤ _ by first | omega | (simp; omega) | (simp; done)))
  have hB1 : Below w.heap.size w w1 := Below.trans belo (hb.mono (by first | omega | (simp; done) | (simp; omega)))
  obtain ⟨kc1, kf1⟩ := bcell hb
  have hz1 := hb.size
  (try simp at hz1)
  have n1_0 : w.heap.size < w1.heap.size := by omega
  have n1_1 : w.heap.size + 1 < w1.heap.size := by omega
  have n1_2 : w.heap.size + 2 < w1.heap.size := by omega
  have r1_0 : w1.cell? ⟨w.heap.size + 2, 0, none⟩ = some (.slice none 0 0) := (kc1 _ _ (by first | assumption | (simp; done) | omega | (simp; omega))).trans (by first | assumption | (simp [go_sem]; done) | (simp; done))
  have g1_0 : w1.frozen? ⟨w.heap.size + 2, 0, none⟩ = false := (kf1 _ _ (by first | assumption | (simp; done) | omega | (simp; omega))).trans (by first | assumption | (simp [go_sem]; done) | (simp; done))
  have r1_1 : w1.cell? ⟨w.heap.size + 2, 1, none⟩ = some (.bool false) := (kc1 _ _ (by first | assumption | (simp; done) | omega | (simp; omega))).trans (by first | assumption | (simp [go_sem]; done) | (simp; done))
  have g1_1 : w1.frozen? ⟨w.heap.size + 2, 1, none⟩ = false := (kf1 _ _ (by first | assumption | (simp; done) | omega | (simp; omega))).trans (by first | assumption | (simp [go_sem]; done) | (simp; done))
  clear hb
  have lp : p.length = n := by rw [Ep.out, blA_length, HN.out]
  have lq : q.length = n := by rw [Eq.out, blB_length, HN.out]
  rw [← Ep.out, ← Eq.out] at HR
  have LP := hide lp
  have LQ := hide lq
  have L1 : p.length ≤ 4096 := by omega
  have L2 : q.length ≤ 4096 := by omega
  have L3 : 0 < p.length := by omega
  clear lp lq
  have k1 := hide (known_any P p pc w1 L1 Op.out.rd)
  have k2 := hide (known_any Q q qc w1 L2 Oq.out.rd)
  cases hk1 : kn p
  · rw [hk1] at k1 HR
    have hk := hk1
    clear hk1
    go_wp2_with fail
    refine (k1.out).mono ?_
    rintro e w' ⟨rfl, rfl⟩
    go_wp2_with fail
    refine (unknown_any p.length σ _ L3 L1).mono ?_
    rintro e w2 ⟨l1, s1, A1, c1, E1, rfl, C1, O1, hb⟩
    replace Op := hide ((show OwQ (w.heap.size + 3) _ _ _ by (repeat (first | with_reducible exact Op.out | with_reducible refine OwQ.far ?_ (by first | (simp; done) | omega | (simp; omega)) _ | with_reducible refine OwQ.allc ?_ _ | with_reducible refine OwQ.drew ?_ | with_reducible refine OwQ.drewN ?_ _))).kept hb)
    replace Oq := hide ((show OwQ (w.heap.size + 3) _ _ _ by (repeat (first | with_reducible exact Oq.out | with_reducible refine OwQ.far ?_ (by first | (simp; done) | omega | (simp; omega)) _ | with_reducible refine OwQ.allc ?_ _ | with_reducible refine OwQ.drew ?_ | with_reducible refine OwQ.drewN ?_ _))).kept hb)
    replace O1 := hide (O1.out.base (show w.heap.size + 3 ≤ _ by first | omega | (simp; omega) | (simp; done)))
    have hB2 : Below w.heap.size w w2 := Below.trans belo (hb.mono (by first | omega | (simp; done) | (simp; omega)))
    obtain ⟨kc2, kf2⟩ := bcell hb
    have hz2 := hb.size
    (try simp at hz2)
    have n2_0 : w.heap.size < w2.heap.size := by omega
    have n2_1 : w.heap.size + 1 < w2.heap.size := by omega
    have n2_2 : w.heap.size + 2 < w2.heap.size := by omega
    have r2_0 : w2.cell? ⟨w.heap.size + 2, 0, none⟩ = some (.slice none 0 0) := (kc2 _ _ (by first | assumption | (simp; done) | omega | (simp; omega))).trans (by first | assumption | (simp [go_sem]; done) | (simp; done))
    have g2_0 : w2.frozen? ⟨w.heap.size + 2, 0, none⟩ = false := (kf2 _ _ (by first | assumption | (simp; done) | omega | (simp; omega))).trans (by first | assumption | (simp [go_sem]; done) | (simp; done))
    have r2_1 : w2.cell? ⟨w.heap.size + 2, 1, none⟩ = some (.bool false) := (kc2 _ _ (by first | assumption | (simp; done) | omega | (simp; omega))).trans (by first | assumption | (simp [go_sem]; done) | (simp; done))
    have g2_1 : w2.frozen? ⟨w.heap.size + 2, 1, none⟩ = false := (kf2 _ _ (by first | assumption | (simp; done) | omega | (simp; omega))).trans (by first | assumption | (simp [go_sem]; done) | (simp; done))
    clear hb
    go_wp2
    refine bodyPost_ret (v := .agg #[.slice A1 l1.length c1, .bool s1]) (by simp [results, Tryz.results119, go_sem, *]) rfl ?_
    exact ⟨l1, s1, A1, c1, hide (E1.out.trans (by rw [HR.out, LP.out]; simp)), rfl, C1, hide (OwQ.base (B := w.heap.size + 3) (by (repeat (first | with_reducible exact O1.out | with_reducible refine OwQ.far ?_ (by first | (simp; done) | omega | (simp; omega)) _ | with_reducible refine OwQ.allc ?_ _ | with_reducible refine OwQ.drew ?_ | with_reducible refine OwQ.drewN ?_ _))) (by omega)), belo⟩
  · cases hk2 : kn q
    · rw [hk1] at k1 HR
      rw [hk2] at k2 HR
      clear hk1 hk2
      go_wp2_with fail
      refine (k1.out).mono ?_
      rintro e w' ⟨rfl, rfl⟩
      go_wp2_with fail
      refine (k2.out).mono ?_
      rintro e w' ⟨rfl, rfl⟩
      go_wp2_with fail
      refine (unknown_any p.length σ _ L3 L1).mono ?_
      rintro e w2 ⟨l1, s1, A1, c1, E1, rfl, C1, O1, hb⟩
      replace Op := hide ((show OwQ (w.heap.size + 3) _ _ _ by (repeat (first | with_reducible exact Op.out | with_reducible refine OwQ.far ?_ (by first | (simp; done) | omega | (simp; omega)) _ | with_reducible refine OwQ.allc ?_ _ | with_reducible refine OwQ.drew ?_ | with_reducible refine OwQ.drewN ?_ _))).kept hb)
      replace Oq := hide ((show OwQ (w.heap.size + 3) _ _ _ by (repeat (first | with_reducible exact Oq.out | with_reducible refine OwQ.far ?_ (by first | (simp; done) | omega | (simp; omega)) _ | with_reducible refine OwQ.allc ?_ _ | with_reducible refine OwQ.drew ?_ | with_reducible refine OwQ.drewN ?_ _))).kept hb)
      replace O1 := hide (O1.out.base (show w.heap.size + 3 ≤ _ by first | omega | (simp; omega) | (simp; done)))
      have hB2 : Below w.heap.size w w2 := Below.trans belo (hb.mono (by first | omega | (simp; done) | (simp; omega)))
      obtain ⟨kc2, kf2⟩ := bcell hb
      have hz2 := hb.size
      (try simp at hz2)
      have n2_0 : w.heap.size < w2.heap.size := by omega
      have n2_1 : w.heap.size + 1 < w2.heap.size := by omega
      have n2_2 : w.heap.size + 2 < w2.heap.size := by omega
      have r2_0 : w2.cell? ⟨w.heap.size + 2, 0, none⟩ = some (.slice none 0 0) := (kc2 _ _ (by first | assumption | (simp; done) | omega | (simp; omega))).trans (by first | assumption | (simp [go_sem]; done) | (simp; done))
      have g2_0 : w2.frozen? ⟨w.heap.size + 2, 0, none⟩ = false := (kf2 _ _ (by first | assumption | (simp; done) | omega | (simp; omega))).trans (by first | assumption | (simp [go_sem]; done) | (simp; done))
      have r2_1 : w2.cell? ⟨w.heap.size + 2, 1, none⟩ = some (.bool false) := (kc2 _ _ (by first | assumption | (simp; done) | omega | (simp; omega))).trans (by first | assumption | (simp [go_sem]; done) | (simp; done))
      have g2_1 : w2.frozen? ⟨w.heap.size + 2, 1, none⟩ = false := (kf2 _ _ (by first | assumption | (simp; done) | omega | (simp; omega))).trans (by first | assumption | (simp [go_sem]; done) | (simp; done))
      clear hb
      go_wp2
      refine bodyPost_ret (v := .agg #[.slice A1 l1.length c1, .bool s1]) (by simp [results, Tryz.results119, go_sem, *]) rfl ?_
      exact ⟨l1, s1, A1, c1, hide (E1.out.trans (by rw [HR.out, LP.out]; simp)), rfl, C1, hide (OwQ.base (B := w.heap.size + 3) (by (repeat (first | with_reducible exact O1.out | with_reducible refine OwQ.far ?_ (by first | (simp; done) | omega | (simp; omega)) _ | with_reducible refine OwQ.allc ?_ _ | with_reducible refine OwQ.drew ?_ | with_reducible refine OwQ.drewN ?_ _))) (by omega)), belo⟩
    · rw [hk1] at k1 HR
      rw [hk2] at k2 HR
      clear hk1 hk2
      go_wp2_with fail
      refine (k1.out).mono ?_
      rintro e w' ⟨rfl, rfl⟩
      go_wp2_with fail
      refine (k2.out).mono ?_
      rintro e w' ⟨rfl, rfl⟩
      go_wp2_with fail
      refine (number_q P p pc _ L1 Op.out.rd).mono ?_
      rintro e w2 ⟨lm, Am, cm, Em, rfl, Cm, Om, hb⟩
      replace Op := hide ((show OwQ (w.heap.size + 3) _ _ _ by (repeat (first | with_reducible exact Op.out | with_reducible refine OwQ.far ?_ (by first | (simp; done) | omega | (simp; omega)) _ | with_reducible refine OwQ.allc ?_ _ | with_reducible refine OwQ.drew ?_ | with_reducible refine OwQ.drewN ?_ _))).kept hb)
      replace Oq := hide ((show OwQ (w.heap.size + 3) _ _ _ by (repeat (first | with_reducible exact Oq.out | with_reducible refine OwQ.far ?_ (by first | (simp; done) | omega | (simp; omega)) _ | with_reducible refine OwQ.allc ?_ _ | with_reducible refine OwQ.drew ?_ | with_reducible refine OwQ.drewN ?_ _))).kept hb)
      replace Om := hide Om.out.rd
      have hB2 : Below w.heap.size w w2 := Below.trans belo (hb.mono (by first | omega | (simp; done) | (simp; omega)))
      obtain ⟨kc2, kf2⟩ := bcell hb
      have hz2 := hb.size
      (try simp at hz2)
      have n2_0 : w.heap.size < w2.heap.size := by omega
      have n2_1 : w.heap.size + 1 < w2.heap.size := by omega
      have n2_2 : w.heap.size + 2 < w2.heap.size := by omega
      have r2_0 : w2.cell? ⟨w.heap.size + 2, 0, none⟩ = some (.slice none 0 0) := (kc2 _ _ (by first | assumption | (simp; done) | omega | (simp; omega))).trans (by first | assumption | (simp [go_sem]; done) | (simp; done))
      have g2_0 : w2.frozen? ⟨w.heap.size + 2, 0, none⟩ = false := (kf2 _ _ (by first | assumption | (simp; done) | omega | (simp; omega))).trans (by first | assumption | (simp [go_sem]; done) | (simp; done))
      have r2_1 : w2.cell? ⟨w.heap.size + 2, 1, none⟩ = some (.bool false) := (kc2 _ _ (by first | assumption | (simp; done) | omega | (simp; omega))).trans (by first | assumption | (simp [go_sem]; done) | (simp; done))
      have g2_1 : w2.frozen? ⟨w.heap.size + 2, 1, none⟩ = false := (kf2 _ _ (by first | assumption | (simp; done) | omega | (simp; omega))).trans (by first | assumption | (simp [go_sem]; done) | (simp; done))
      clear hb
      go_wp2_with fail
      refine (number_q Q q qc _ L2 Oq.out.rd).mono ?_
      rintro e w3 ⟨lk, Ak, ck, Ek, rfl, Ck, Ok, hb⟩
      replace Op := hide ((show OwQ (w.heap.size + 3) _ _ _ by (repeat (first | with_reducible exact Op.out | with_reducible refine OwQ.far ?_ (by first | (simp; done) | omega | (simp; omega)) _ | with_reducible refine OwQ.allc ?_ _ | with_reducible refine OwQ.drew ?_ | with_reducible refine OwQ.drewN ?_ _))).kept hb)
      replace Oq := hide ((show OwQ (w.heap.size + 3) _ _ _ by (repeat (first | with_reducible exact Oq.out | with_reducible refine OwQ.far ?_ (by first | (simp; done) | omega | (simp; omega)) _ | with_reducible refine OwQ.allc ?_ _ | with_reducible refine OwQ.drew ?_ | with_reducible refine OwQ.drewN ?_ _))).kept hb)
      replace Om := hide (Om.out.below hb)
      replace Ok := hide Ok.out.rd
      have hB3 : Below w.heap.size w w3 := Below.trans belo (hb.mono (by first | omega | (simp; done) | (simp; omega)))
      obtain ⟨kc3, kf3⟩ := bcell hb
      have hz3 := hb.size
      (try simp at hz3)
      have n3_0 : w.heap.size < w3.heap.size := by omega
      have n3_1 : w.heap.size + 1 < w3.heap.size := by omega
      have n3_2 : w.heap.size + 2 < w3.heap.size := by omega
      have r3_0 : w3.cell? ⟨w.heap.size + 2, 0, none⟩ = some (.slice none 0 0) := (kc3 _ _ (by first | assumption | (simp; done) | omega | (simp; omega))).trans (by first | assumption | (simp [go_sem]; done) | (simp; done))
      have g3_0 : w3.frozen? ⟨w.heap.size + 2, 0, none⟩ = false := (kf3 _ _ (by first | assumption | (simp; done) | omega | (simp; omega))).trans (by first | assumption | (simp [go_sem]; done) | (simp; done))
      have r3_1 : w3.cell? ⟨w.heap.size + 2, 1, none⟩ = some (.bool false) := (kc3 _ _ (by first | assumption | (simp; done) | omega | (simp; omega))).trans (by first | assumption | (simp [go_sem]; done) | (simp; done))
      have g3_1 : w3.frozen? ⟨w.heap.size + 2, 1, none⟩ = false := (kf3 _ _ (by first | assumption | (simp; done) | omega | (simp; omega))).trans (by first | assumption | (simp [go_sem]; done) | (simp; done))
      clear hb
      have em : lm.length = p.length := by rw [Em.out, nb_length]
      have ek : lk.length = q.length := by rw [Ek.out, nb_length]
      rw [← Em.out, ← Ek.out] at HR
      have EM := hide em
      have em2 : lm.length ≤ 4096 := by omega
      have ek2 : lk.length ≤ 4096 := by omega
      clear em ek
      go_wp2_with fail
      refine (hct.out Am Ak lm lk cm ck σ _ belo em2 ek2 Om.out Ok.out).mono ?_
      rintro e w4 ⟨l0, A0, c0, E0, rfl, H0, O0, hb⟩
      replace Op := hide ((show OwQ (w.heap.size + 3) _ _ _ by (repeat (first | with_reducible exact Op.out | with_reducible refine OwQ.far ?_ (by first | (simp; done) | omega | (simp; omega)) _ | with_reducible refine OwQ.allc ?_ _ | with_reducible refine OwQ.drew ?_ | with_reducible refine OwQ.drewN ?_ _))).kept hb)
      replace Oq := hide ((show OwQ (w.heap.size + 3) _ _ _ by (repeat (first | with_reducible exact Oq.out | with_reducible refine OwQ.far ?_ (by first | (simp; done) | omega | (simp; omega)) _ | with_reducible refine OwQ.allc ?_ _ | with_reducible refine OwQ.drew ?_ | with_reducible refine OwQ.drewN ?_ _))).kept hb)
      replace Om := hide (Om.out.below hb)
      replace Ok := hide (Ok.out.below hb)
      have hB4 : Below w.heap.size w w4 := Below.trans belo (hb.mono (by first | omega | (simp; done) | (simp; omega)))
      obtain ⟨kc4, kf4⟩ := bcell hb
      have hz4 := hb.size
      (try simp at hz4)
      have n4_0 : w.heap.size < w4.heap.size := by omega
      have n4_1 : w.heap.size + 1 < w4.heap.size := by omega
      have n4_2 : w.heap.size + 2 < w4.heap.size := by omega
      have r4_0 : w4.cell? ⟨w.heap.size + 2, 0, none⟩ = some (.slice none 0 0) := (kc4 _ _ (by first | assumption | (simp; done) | omega | (simp; omega))).trans (by first | assumption | (simp [go_sem]; done) | (simp; done))
      have g4_0 : w4.frozen? ⟨w.heap.size + 2, 0, none⟩ = false := (kf4 _ _ (by first | assumption | (simp; done) | omega | (simp; omega))).trans (by first | assumption | (simp [go_sem]; done) | (simp; done))
      have r4_1 : w4.cell? ⟨w.heap.size + 2, 1, none⟩ = some (.bool false) := (kc4 _ _ (by first | assumption | (simp; done) | omega | (simp; omega))).trans (by first | assumption | (simp [go_sem]; done) | (simp; done))
      have g4_1 : w4.frozen? ⟨w.heap.size + 2, 1, none⟩ = false := (kf4 _ _ (by first | assumption | (simp; done) | omega | (simp; omega))).trans (by first | assumption | (simp [go_sem]; done) | (simp; done))
      clear hb
      cases hf : f lm lk σ
      · rw [hf] at H0 HR
        have hne : E0 ≠ 0 := H0.out
        have hne2 : (E0 != 0) = true := by simpa using hne
        clear hf hne
        go_wp2_with fail
        refine (unknown_any p.length σ _ L3 L1).mono ?_
        rintro e w5 ⟨l1, s1, A1, c1, E1, rfl, C1, O1, hb⟩
        replace Op := hide ((show OwQ (w.heap.size + 3) _ _ _ by (repeat (first | with_reducible exact Op.out | with_reducible refine OwQ.far ?_ (by first | (simp; done) | omega | (simp; omega)) _ | with_reducible refine OwQ.allc ?_ _ | with_reducible refine OwQ.drew ?_ | with_reducible refine OwQ.drewN ?_ _))).kept hb)
        replace Oq := hide ((show OwQ (w.heap.size + 3) _ _ _ by (repeat (first | with_reducible exact Oq.out | with_reducible refine OwQ.far ?_ (by first | (simp; done) | omega | (simp; omega)) _ | with_reducible refine OwQ.allc ?_ _ | with_reducible refine OwQ.drew ?_ | with_reducible refine OwQ.drewN ?_ _))).kept hb)
        replace Om := hide (Om.out.below hb)
        replace Ok := hide (Ok.out.below hb)
        replace O1 := hide (O1.out.base (show w.heap.size + 3 ≤ _ by first | omega | (simp; omega) | (simp; done)))
        have hB5 : Below w.heap.size w w5 := Below.trans belo (hb.mono (by first | omega | (simp; done) | (simp; omega)))
        obtain ⟨kc5, kf5⟩ := bcell hb
        have hz5 := hb.size
        (try simp at hz5)
        have n5_0 : w.heap.size < w5.heap.size := by omega
        have n5_1 : w.heap.size + 1 < w5.heap.size := by omega
        have n5_2 : w.heap.size + 2 < w5.heap.size := by omega
        have r5_0 : w5.cell? ⟨w.heap.size + 2, 0, none⟩ = some (.slice none 0 0) := (kc5 _ _ (by first | assumption | (simp; done) | omega | (simp; omega))).trans (by first | assumption | (simp [go_sem]; done) | (simp; done))
        have g5_0 : w5.frozen? ⟨w.heap.size + 2, 0, none⟩ = false := (kf5 _ _ (by first | assumption | (simp; done) | omega | (simp; omega))).trans (by first | assumption | (simp [go_sem]; done) | (simp; done))
        have r5_1 : w5.cell? ⟨w.heap.size + 2, 1, none⟩ = some (.bool false) := (kc5 _ _ (by first | assumption | (simp; done) | omega | (simp; omega))).trans (by first | assumption | (simp [go_sem]; done) | (simp; done))
        have g5_1 : w5.frozen? ⟨w.heap.size + 2, 1, none⟩ = false := (kf5 _ _ (by first | assumption | (simp; done) | omega | (simp; omega))).trans (by first | assumption | (simp [go_sem]; done) | (simp; done))
        clear hb
        go_wp2
        refine bodyPost_ret (v := .agg #[.slice A1 l1.length c1, .bool s1]) (by simp [results, Tryz.results119, go_sem, *]) rfl ?_
        exact ⟨l1, s1, A1, c1, hide (E1.out.trans (by rw [HR.out, LP.out]; simp)), rfl, C1, hide (OwQ.base (B := w.heap.size + 3) (by (repeat (first | with_reducible exact O1.out | with_reducible refine OwQ.far ?_ (by first | (simp; done) | omega | (simp; omega)) _ | with_reducible refine OwQ.allc ?_ _ | with_reducible refine OwQ.drew ?_ | with_reducible refine OwQ.drewN ?_ _))) (by omega)), belo⟩
      · rename_i v
        rw [hf] at H0 HR
        obtain ⟨rfl, rfl⟩ := H0.out
        have el := HL.out _ _ _ _ hf
        have el2 : l0.length ≤ 4096 := by omega
        clear hf el H0
        go_wp2_with fail
        refine (vector_any A0 l0 c0 σ _ el2 O0.out).mono ?_
        rintro e w5 ⟨l1, s1, A1, c1, E1, rfl, C1, O1, hb⟩
        replace Op := hide ((show OwQ (w.heap.size + 3) _ _ _ by (repeat (first | with_reducible exact Op.out | with_reducible refine OwQ.far ?_ (by first | (simp; done) | omega | (simp; omega)) _ | with_reducible refine OwQ.allc ?_ _ | with_reducible refine OwQ.drew ?_ | with_reducible refine OwQ.drewN ?_ _))).kept hb)
        replace Oq := hide ((show OwQ (w.heap.size + 3) _ _ _ by (repeat (first | with_reducible exact Oq.out | with_reducible refine OwQ.far ?_ (by first | (simp; done) | omega | (simp; omega)) _ | with_reducible refine OwQ.allc ?_ _ | with_reducible refine OwQ.drew ?_ | with_reducible refine OwQ.drewN ?_ _))).kept hb)
        replace Om := hide (Om.out.below hb)
        replace Ok := hide (Ok.out.below hb)
        replace O1 := hide (O1.out.base (show w.heap.size + 3 ≤ _ by first | omega | (simp; omega) | (simp; done)))
        have hB5 : Below w.heap.size w w5 := Below.trans belo (hb.mono (by first | omega | (simp; done) | (simp; omega)))
        obtain ⟨kc5, kf5⟩ := bcell hb
        have hz5 := hb.size
        (try simp at hz5)
        have n5_0 : w.heap.size < w5.heap.size := by omega
        have n5_1 : w.heap.size + 1 < w5.heap.size := by omega
        have n5_2 : w.heap.size + 2 < w5.heap.size := by omega
        have r5_0 : w5.cell? ⟨w.heap.size + 2, 0, none⟩ = some (.slice none 0 0) := (kc5 _ _ (by first | assumption | (simp; done) | omega | (simp; omega))).trans (by first | assumption | (simp [go_sem]; done) | (simp; done))
        have g5_0 : w5.frozen? ⟨w.heap.size + 2, 0, none⟩ = false := (kf5 _ _ (by first | assumption | (simp; done) | omega | (simp; omega))).trans (by first | assumption | (simp [go_sem]; done) | (simp; done))
        have r5_1 : w5.cell? ⟨w.heap.size + 2, 1, none⟩ = some (.bool false) := (kc5 _ _ (by first | assumption | (simp; done) | omega | (simp; omega))).trans (by first | assumption | (simp [go_sem]; done) | (simp; done))
        have g5_1 : w5.frozen? ⟨w.heap.size + 2, 1, none⟩ = false := (kf5 _ _ (by first | assumption | (simp; done) | omega | (simp; omega))).trans (by first | assumption | (simp [go_sem]; done) | (simp; done))
        clear hb
        go_wp2
        refine bodyPost_ret (v := .agg #[.slice A1 l1.length c1, .bool s1]) (by simp [results, Tryz.results119, go_sem, *]) rfl ?_
        exact ⟨l1, s1, A1, c1, hide (E1.out.trans (by rw [HR.out]; simp)), rfl, C1, hide (OwQ.base (B := w.heap.size + 3) (by (repeat (first | with_reducible exact O1.out | with_reducible refine OwQ.far ?_ (by first | (simp; done) | omega | (simp; omega)) _ | with_reducible refine OwQ.allc ?_ _ | with_reducible refine OwQ.drew ?_ | with_reducible refine OwQ.drewN ?_ _))) (by omega)), belo⟩
set_option maxHeartbeats 2000000 in
theorem arith1_any (N : Nat) (f : List Bool → List Bool → Bool → Option (List Bool)) (Y : Value) (A B : Option Addr) (a b : List Int) (c d : Nat) (s t : Bool) (w : World) (ha : a.length ≤ 4096) (hb : b.length ≤ 4096) (hca : Hid (a.length ≤ c ∧ c ≤ maxLen)) (hcb : Hid (b.length ≤ d ∧ d ≤ maxLen)) (hA : RQ w A a) (hB : RQ w B b) (ya : By a) (yb : By b) (hop : OpN N f #[Y] w) (hlen : ∀ m n s l, f m n s = some l → l.length = m.length) :
    Calls Tryz.prog 119 #[.agg #[.slice A a.length c, .bool s], .agg #[.slice B b.length d, .bool t], .func (.func N) #[] #[Y]] w (RetC (· = ar f ⟨a, s⟩ ⟨b, t⟩) w) := by
  have hcf : ∀ args w, (callFunc N args).run Tryz.prog w = .ok (.enter N args) w := hop.cf
  have hct := hide (fun A B m n c d s W hW h1 h2 h3 h4 => (show Calls Tryz.prog N #[.slice A m.length c, .slice B n.length d, .bool s, Y] W (RetO (f m n s) W) from hop.ct A B m n c d s W hW h1 h2 h3 h4))
  have HL := hide hlen
  have hwd := wd_bd (a := ⟨a, s⟩) (b := ⟨b, t⟩) ya yb
  have HA := hide hA
  have HBB := hide hB
  have LA := hide ha
  have LB := hide hb
  have YA := hide ya
  have YB := hide yb
  clear hA hB ha hb ya yb
  clear hop hlen
  obtain ⟨n, hn⟩ : ∃ n, n = wd ⟨a, s⟩ ⟨b, t⟩ := ⟨_, rfl⟩
  have hcall := hide fun W (hW : Below w.heap.size w W) => balance_any A B a b c d s t W LA.out LB.out hca hcb (HA.out.below hW) (HBB.out.below hW) YA.out YB.out
  unfold RetB at hcall
  obtain ⟨σ, hσ⟩ : ∃ σ, σ = sg ⟨a, s⟩ ⟨b, t⟩ := ⟨_, rfl⟩
  rw [← hσ] at hcall
  obtain ⟨R, hR⟩ : ∃ R, R = ar f ⟨a, s⟩ ⟨b, t⟩ := ⟨_, rfl⟩
  rw [← hR]
  unfold ar at hR
  rw [← hn, ← hσ] at hR
  rw [← hn] at hwd
  have HN := hide hn
  have HR := hide hR
  clear hn hσ hR
  go_enter Tryz.func119, Tryz.ntmps119
  go_wp2_with fail
  refine (hcall.out _ belo).mono ?_
  rintro e w1 ⟨p, P, pc, q, Q, qc, Ep, Eq, rfl, Cp, Cq, Op, Oq, -, hb⟩
  replace Op := hide (Op.out.base (show w.heap.size + 3 ≤ _ by first | omega | (simp; omega) | (simp; done)))
  replace Oq := hide (Oq.out.base (show w.heap.size + 3 ≤ _ by first | omega | (simp; omega) | (simp; done)))
  have hB1 : Below w.heap.size w w1 := Below.trans belo (hb.mono (by first | omega | (simp; done) | (simp; omega)))
  obtain ⟨kc1, kf1⟩ := bcell hb
  have hz1 := hb.size
  (try simp at hz1)
  have n1_0 : w.heap.size < w1.heap.size := by omega
  have n1_1 : w.heap.size + 1 < w1.heap.size := by omega
  have n1_2 : w.heap.size + 2 < w1.heap.size := by omega
  have r1_0 : w1.cell? ⟨w.heap.size + 2, 0, none⟩ = some (.slice none 0 0) := (kc1 _ _ (by first | assumption | (simp; done) | omega | (simp; omega))).trans (by first | assumption | (simp [go_sem]; done) | (simp; done))
  have g1_0 : w1.frozen? ⟨w.heap.size + 2, 0, none⟩ = false := (kf1 _ _ (by first | assumption | (simp; done) | omega | (simp; omega))).trans (by first | assumption | (simp [go_sem]; done) | (simp; done))
  have r1_1 : w1.cell? ⟨w.heap.size + 2, 1, none⟩ = some (.bool false) := (kc1 _ _ (by first | assumption | (simp; done) | omega | (simp; omega))).trans (by first | assumption | (simp [go_sem]; done) | (simp; done))
  have g1_1 : w1.frozen? ⟨w.heap.size + 2, 1, none⟩ = false := (kf1 _ _ (by first | assumption | (simp; done) | omega | (simp; omega))).trans (by first | assumption | (simp [go_sem]; done) | (simp; done))
  clear hb
  have lp : p.length = n := by rw [Ep.out, blA_length, HN.out]
  have lq : q.length = n := by rw [Eq.out, blB_length, HN.out]
  rw [← Ep.out, ← Eq.out] at HR
  have LP := hide lp
  have LQ := hide lq
  have L1 : p.length ≤ 4096 := by omega
  have L2 : q.length ≤ 4096 := by omega
  have L3 : 0 < p.length := by omega
  clear lp lq
  have k1 := hide (known_any P p pc w1 L1 Op.out.rd)
  have k2 := hide (known_any Q q qc w1 L2 Oq.out.rd)
  cases hk1 : kn p
  · rw [hk1] at k1 HR
    have hk := hk1
    clear hk1
    go_wp2_with fail
    refine (k1.out).mono ?_
    rintro e w' ⟨rfl, rfl⟩
    go_wp2_with fail
    refine (unknown_any p.length σ _ L3 L1).mono ?_
    rintro e w2 ⟨l1, s1, A1, c1, E1, rfl, C1, O1, hb⟩
    replace Op := hide ((show OwQ (w.heap.size + 3) _ _ _ by (repeat (first | with_reducible exact Op.out | with_reducible refine OwQ.far ?_ (by first | (simp; done) | omega | (simp; omega)) _ | with_reducible refine OwQ.allc ?_ _ | with_reducible refine OwQ.drew ?_ | with_reducible refine OwQ.drewN ?_ _))).kept hb)
    replace Oq := hide ((show OwQ (w.heap.size + 3) _ _ _ by (repeat (first | with_reducible exact Oq.out | with_reducible refine OwQ.far ?_ (by first | (simp; done) | omega | (simp; omega)) _ | with_reducible refine OwQ.allc ?_ _ | with_reducible refine OwQ.drew ?_ | with_reducible refine OwQ.drewN ?_ _))).kept hb)
    replace O1 := hide (O1.out.base (show w.heap.size + 3 ≤ _ by first | omega | (simp; omega) | (simp; done)))
    have hB2 : Below w.heap.size w w2 := Below.trans belo (hb.mono (by first | omega | (simp; done) | (simp; omega)))
    obtain ⟨kc2, kf2⟩ := bcell hb
    have hz2 := hb.size
    (try simp at hz2)
    have n2_0 : w.heap.size < w2.heap.size := by omega
    have n2_1 : w.heap.size + 1 < w2.heap.size := by omega
    have n2_2 : w.heap.size + 2 < w2.heap.size := by omega
    have r2_0 : w2.cell? ⟨w.heap.size + 2, 0, none⟩ = some (.slice none 0 0) := (kc2 _ _ (by first | assumption | (simp; done) | omega | (simp; omega))).trans (by first | assumption | (simp [go_sem]; done) | (simp; done))
    have g2_0 : w2.frozen? ⟨w.heap.size + 2, 0, none⟩ = false := (kf2 _ _ (by first | assumption | (simp; done) | omega | (simp; omega))).trans (by first | assumption | (simp [go_sem]; done) | (simp; done))
    have r2_1 : w2.cell? ⟨w.heap.size + 2, 1, none⟩ = some (.bool false) := (kc2 _ _ (by first | assumption | (simp; done) | omega | (simp; omega))).trans (by first | assumption | (simp [go_sem]; done) | (simp; done))
    have g2_1 : w2.frozen? ⟨w.heap.size + 2, 1, none⟩ = false := (kf2 _ _ (by first | assumption | (simp; done) | omega | (simp; omega))).trans (by first | assumption | (simp [go_sem]; done) | (simp; done))
    clear hb
    go_wp2
    refine bodyPost_ret (v := .agg #[.slice A1 l1.length c1, .bool s1]) (by simp [results, Tryz.results119, go_sem, *]) rfl ?_
    exact ⟨l1, s1, A1, c1, hide (E1.out.trans (by rw [HR.out, LP.out]; simp)), rfl, C1, hide (OwQ.base (B := w.heap.size + 3) (by (repeat (first | with_reducible exact O1.out | with_reducible refine OwQ.far ?_ (by first | (simp; done) | omega | (simp; omega)) _ | with_reducible refine OwQ.allc ?_ _ | with_reducible refine OwQ.drew ?_ | with_reducible refine OwQ.drewN ?_ _))) (by omega)), belo⟩
  · cases hk2 : kn q
    · rw [hk1] at k1 HR
      rw [hk2] at k2 HR
      clear hk1 hk2
      go_wp2_with fail
      refine (k1.out).mono ?_
      rintro e w' ⟨rfl, rfl⟩
      go_wp2_with fail
      refine (k2.out).mono ?_
      rintro e w' ⟨rfl, rfl⟩
      go_wp2_with fail
      refine (unknown_any p.length σ _ L3 L1).mono ?_
      rintro e w2 ⟨l1, s1, A1, c1, E1, rfl, C1, O1, hb⟩
      replace Op := hide ((show OwQ (w.heap.size + 3) _ _ _ by (repeat (first | with_reducible exact Op.out | with_reducible refine OwQ.far ?_ (by first | (simp; done) | omega | (simp; omega)) _ | with_reducible refine OwQ.allc ?_ _ | with_reducible refine OwQ.drew ?_ | with_reducible refine OwQ.drewN ?_ _))).kept hb)
      replace Oq := hide ((show OwQ (w.heap.size + 3) _ _ _ by (repeat (first | with_reducible exact Oq.out | with_reducible refine OwQ.far ?_ (by first | (simp; done) | omega | (simp; omega)) _ | with_reducible refine OwQ.allc ?_ _ | with_reducible refine OwQ.drew ?_ | with_reducible refine OwQ.drewN ?_ _))).kept hb)
      replace O1 := hide (O1.out.base (show w.heap.size + 3 ≤ _ by first | omega | (simp; omega) | (simp; done)))
      have hB2 : Below w.heap.size w w2 := Below.trans belo (hb.mono (by first | omega | (simp; done) | (simp; omega)))
      obtain ⟨kc2, kf2⟩ := bcell hb
      have hz2 := hb.size
      (try simp at hz2)
      have n2_0 : w.heap.size < w2.heap.size := by omega
      have n2_1 : w.heap.size + 1 < w2.heap.size := by omega
      have n2_2 : w.heap.size + 2 < w2.heap.size := by omega
      have r2_0 : w2.cell? ⟨w.heap.size + 2, 0, none⟩ = some (.slice none 0 0) := (kc2 _ _ (by first | assumption | (simp; done) | omega | (simp; omega))).trans (by first | assumption | (simp [go_sem]; done) | (simp; done))
      have g2_0 : w2.frozen? ⟨w.heap.size + 2, 0, none⟩ = false := (kf2 _ _ (by first | assumption | (simp; done) | omega | (simp; omega))).trans (by first | assumption | (simp [go_sem]; done) | (simp; done))
      have r2_1 : w2.cell? ⟨w.heap.size + 2, 1, none⟩ = some (.bool false) := (kc2 _ _ (by first | assumption | (simp; done) | omega | (simp; omega))).trans (by first | assumption | (simp [go_sem]; done) | (simp; done))
      have g2_1 : w2.frozen? ⟨w.heap.size + 2, 1, none⟩ = false := (kf2 _ _ (by first | assumption | (simp; done) | omega | (simp; omega))).trans (by first | assumption | (simp [go_sem]; done) | (simp; done))
      clear hb
      go_wp2
      refine bodyPost_ret (v := .agg #[.slice A1 l1.length c1, .bool s1]) (by simp [results, Tryz.results119, go_sem, *]) rfl ?_
      exact ⟨l1, s1, A1, c1, hide (E1.out.trans (by rw [HR.out, LP.out]; simp)), rfl, C1, hide (OwQ.base (B := w.heap.size + 3) (by (repeat (first | with_reducible exact O1.out | with_reducible refine OwQ.far ?_ (by first | (simp; done) | omega | (simp; omega)) _ | with_reducible refine OwQ.allc ?_ _ | with_reducible refine OwQ.drew ?_ | with_reducible refine OwQ.drewN ?_ _))) (by omega)), belo⟩
    · rw [hk1] at k1 HR
      rw [hk2] at k2 HR
      clear hk1 hk2
      go_wp2_with fail
      refine (k1.out).mono ?_
      rintro e w' ⟨rfl, rfl⟩
      go_wp2_with fail
      refine (k2.out).mono ?_
      rintro e w' ⟨rfl, rfl⟩
      go_wp2_with fail
      refine (number_q P p pc _ L1 Op.out.rd).mono ?_
      rintro e w2 ⟨lm, Am, cm, Em, rfl, Cm, Om, hb⟩
      replace Op := hide ((show OwQ (w.heap.size + 3) _ _ _ by (repeat (first | with_reducible exact Op.out | with_reducible refine OwQ.far ?_ (by first | (simp; done) | omega | (simp; omega)) _ | with_reducible refine OwQ.allc ?_ _ | with_reducible refine OwQ.drew ?_ | with_reducible refine OwQ.drewN ?_ _))).kept hb)
      replace Oq := hide ((show OwQ (w.heap.size + 3) _ _ _ by (repeat (first | with_reducible exact Oq.out | with_reducible refine OwQ.far ?_ (by first | (simp; done) | omega | (simp; omega)) _ | with_reducible refine OwQ.allc ?_ _ | with_reducible refine OwQ.drew ?_ | with_reducible refine OwQ.drewN ?_ _))).kept hb)
      replace Om := hide Om.out.rd
      have hB2 : Below w.heap.size w w2 := Below.trans belo (hb.mono (by first | omega | (simp; done) | (simp; omega)))
      obtain ⟨kc2, kf2⟩ := bcell hb
      have hz2 := hb.size
      (try simp at hz2)
      have n2_0 : w.heap.size < w2.heap.size := by omega
      have n2_1 : w.heap.size + 1 < w2.heap.size := by omega
      have n2_2 : w.heap.size + 2 < w2.heap.size := by omega
      have r2_0 : w2.cell? ⟨w.heap.size + 2, 0, none⟩ = some (.slice none 0 0) := (kc2 _ _ (by first | assumption | (simp; done) | omega | (simp; omega))).trans (by first | assumption | (simp [go_sem]; done) | (simp; done))
      have g2_0 : w2.frozen? ⟨w.heap.size + 2, 0, none⟩ = false := (kf2 _ _ (by first | assumption | (simp; done) | omega | (simp; omega))).trans (by first | assumption | (simp [go_sem]; done) | (simp; done))
      have r2_1 : w2.cell? ⟨w.heap.size + 2, 1, none⟩ = some (.bool false) := (kc2 _ _ (by first | assumption | (simp; done) | omega | (simp; omega))).trans (by first | assumption | (simp [go_sem]; done) | (simp; done))
      have g2_1 : w2.frozen? ⟨w.heap.size + 2, 1, none⟩ = false := (kf2 _ _ (by first | assumption | (simp; done) | omega | (simp; omega))).trans (by first | assumption | (simp [go_sem]; done) | (simp; done))
      clear hb
      go_wp2_with fail
      refine (number_q Q q qc _ L2 Oq.out.rd).mono ?_
      rintro e w3 ⟨lk, Ak, ck, Ek, rfl, Ck, Ok, hb⟩
      replace Op := hide ((show OwQ (w.heap.size + 3) _ _ _ by (repeat (first | with_reducible exact Op.out | with_reducible refine OwQ.far ?_ (by first | (simp; done) | omega | (simp; omega)) _ | with_reducible refine OwQ.allc ?_ _ | with_reducible refine OwQ.drew ?_ | with_reducible refine OwQ.drewN ?_ _))).kept hb)
      replace Oq := hide ((show OwQ (w.heap.size + 3) _ _ _ by (repeat (first | with_reducible exact Oq.out | with_reducible refine OwQ.far ?_ (by first | (simp; done) | omega | (simp; omega)) _ | with_reducible refine OwQ.allc ?_ _ | with_reducible refine OwQ.drew ?_ | with_reducible refine OwQ.drewN ?_ _))).kept hb)
      replace Om := hide (Om.out.below hb)
      replace Ok := hide Ok.out.rd
      have hB3 : Below w.heap.size w w3 := Below.trans belo (hb.mono (by first | omega | (simp; done) | (simp; omega)))
      obtain ⟨kc3, kf3⟩ := bcell hb
      have hz3 := hb.size
      (try simp at hz3)
      have n3_0 : w.heap.size < w3.heap.size := by omega
      have n3_1 : w.heap.size + 1 < w3.heap.size := by omega
      have n3_2 : w.heap.size + 2 < w3.heap.size := by omega
      have r3_0 : w3.cell? ⟨w.heap.size + 2, 0, none⟩ = some (.slice none 0 0) := (kc3 _ _ (by first | assumption | (simp; done) | omega | (simp; omega))).trans (by first | assumption | (simp [go_sem]; done) | (simp; done))
      have g3_0 : w3.frozen? ⟨w.heap.size + 2, 0, none⟩ = false := (kf3 _ _ (by first | assumption | (simp; done) | omega | (simp; omega))).trans (by first | assumption | (simp [go_sem]; done) | (simp; done))
      have r3_1 : w3.cell? ⟨w.heap.size + 2, 1, none⟩ = some (.bool false) := (kc3 _ _ (by first | assumption | (simp; done) | omega | (simp; omega))).trans (by first | assumption | (simp [go_sem]; done) | (simp; done))
      have g3_1 : w3.frozen? ⟨w.heap.size + 2, 1, none⟩ = false := (kf3 _ _ (by first | assumption | (simp; done) | omega | (simp; omega))).trans (by first | assumption | (simp [go_sem]; done) | (simp; done))
      clear hb
      have em : lm.length = p.length := by rw [Em.out, nb_length]
      have ek : lk.length = q.length := by rw [Ek.out, nb_length]
      rw [← Em.out, ← Ek.out] at HR
      have EM := hide em
      have em2 : lm.length ≤ 4096 := by omega
      have ek2 : lk.length ≤ 4096 := by omega
      clear em ek
      go_wp2_with fail
      refine (hct.out Am Ak lm lk cm ck σ _ belo em2 ek2 Om.out Ok.out).mono ?_
      rintro e w4 ⟨l0, A0, c0, E0, rfl, H0, O0, hb⟩
      replace Op := hide ((show OwQ (w.heap.size + 3) _ _ _ by (repeat (first | with_reducible exact Op.out | with_reducible refine OwQ.far ?_ (by first | (simp; done) | omega | (simp; omega)) _ | with_reducible refine OwQ.allc ?_ _ | with_reducible refine OwQ.drew ?_ | with_reducible refine OwQ.drewN ?_ _))).kept hb)
      replace Oq := hide ((show OwQ (w.heap.size + 3) _ _ _ by (repeat (first | with_reducible exact Oq.out | with_reducible refine OwQ.far ?_ (by first | (simp; done) | omega | (simp; omega)) _ | with_reducible refine OwQ.allc ?_ _ | with_reducible refine OwQ.drew ?_ | with_reducible refine OwQ.drewN ?_ _))).kept hb)
      replace Om := hide (Om.out.below hb)
      replace Ok := hide (Ok.out.below hb)
      have hB4 : Below w.heap.size w w4 := Below.trans belo (hb.mono (by first | omega | (simp; done) | (simp; omega)))
      obtain ⟨kc4, kf4⟩ := bcell hb
      have hz4 := hb.size
      (try simp at hz4)
      have n4_0 : w.heap.size < w4.heap.size := by omega
      have n4_1 : w.heap.size + 1 < w4.heap.size := by omega
      have n4_2 : w.heap.size + 2 < w4.heap.size := by omega
      have r4_0 : w4.cell? ⟨w.heap.size + 2, 0, none⟩ = some (.slice none 0 0) := (kc4 _ _ (by first | assumption | (simp; done) | omega | (simp; omega))).trans (by first | assumption | (simp [go_sem]; done) | (simp; done))
      have g4_0 : w4.frozen? ⟨w.heap.size + 2, 0, none⟩ = false := (kf4 _ _ (by first | assumption | (simp; done) | omega | (simp; omega))).trans (by first | assumption | (simp [go_sem]; done) | (simp; done))
      have r4_1 : w4.cell? ⟨w.heap.size + 2, 1, none⟩ = some (.bool false) := (kc4 _ _ (by first | assumption | (simp; done) | omega | (simp; omega))).trans (by first | assumption | (simp [go_sem]; done) | (simp; done))
      have g4_1 : w4.frozen? ⟨w.heap.size + 2, 1, none⟩ = false := (kf4 _ _ (by first | assumption | (simp; done) | omega | (simp; omega))).trans (by first | assumption | (simp [go_sem]; done) | (simp; done))
      clear hb
      cases hf : f lm lk σ
      · rw [hf] at H0 HR
        have hne : E0 ≠ 0 := H0.out
        have hne2 : (E0 != 0) = true := by simpa using hne
        clear hf hne
        go_wp2_with fail
        refine (unknown_any p.length σ _ L3 L1).mono ?_
        rintro e w5 ⟨l1, s1, A1, c1, E1, rfl, C1, O1, hb⟩
        replace Op := hide ((show OwQ (w.heap.size + 3) _ _ _ by (repeat (first | with_reducible exact Op.out | with_reducible refine OwQ.far ?_ (by first | (simp; done) | omega | (simp; omega)) _ | with_reducible refine OwQ.allc ?_ _ | with_reducible refine OwQ.drew ?_ | with_reducible refine OwQ.drewN ?_ _))).kept hb)
        replace Oq := hide ((show OwQ (w.heap.size + 3) _ _ _ by (repeat (first | with_reducible exact Oq.out | with_reducible refine OwQ.far ?_ (by first | (simp; done) | omega | (simp; omega)) _ | with_reducible refine OwQ.allc ?_ _ | with_reducible refine OwQ.drew ?_ | with_reducible refine OwQ.drewN ?_ _))).kept hb)
        replace Om := hide (Om.out.below hb)
        replace Ok := hide (Ok.out.below hb)
        replace O1 := hide (O1.out.base (show w.heap.size + 3 ≤ _ by first | omega | (simp; omega) | (simp; done)))
        have hB5 : Below w.heap.size w w5 := Below.trans belo (hb.mono (by first | omega | (simp; done) | (simp; omega)))
        obtain ⟨kc5, kf5⟩ := bcell hb
        have hz5 := hb.size
        (try simp at hz5)
        have n5_0 : w.heap.size < w5.heap.size := by omega
        have n5_1 : w.heap.size + 1 < w5.heap.size := by omega
        have n5_2 : w.heap.size + 2 < w5.heap.size := by omega
        have r5_0 : w5.cell? ⟨w.heap.size + 2, 0, none⟩ = some (.slice none 0 0) := (kc5 _ _ (by first | assumption | (simp; done) | omega | (simp; omega))).trans (by first | assumption | (simp [go_sem]; done) | (simp; done))
        have g5_0 : w5.frozen? ⟨w.heap.size + 2, 0, none⟩ = false := (kf5 _ _ (by first | assumption | (simp; done) | omega | (simp; omega))).trans (by first | assumption | (simp [go_sem]; done) | (simp; done))
        have r5_1 : w5.cell? ⟨w.heap.size + 2, 1, none⟩ = some (.bool false) := (kc5 _ _ (by first | assumption | (simp; done) | omega | (simp; omega))).trans (by first | assumption | (simp [go_sem]; done) | (simp; done))
        have g5_1 : w5.frozen? ⟨w.heap.size + 2, 1, none⟩ = false := (kf5 _ _ (by first | assumption | (simp; done) | omega | (simp; omega))).trans (by first | assumption | (simp [go_sem]; done) | (simp; done))
        clear hb
        go_wp2
        refine bodyPost_ret (v := .agg #[.slice A1 l1.length c1, .bool s1]) (by simp [results, Tryz.results119, go_sem, *]) rfl ?_
        exact ⟨l1, s1, A1, c1, hide (E1.out.trans (by rw [HR.out, LP.out]; simp)), rfl, C1, hide (OwQ.base (B := w.heap.size + 3) (by (repeat (first | with_reducible exact O1.out | with_reducible refine OwQ.far ?_ (by first | (simp; done) | omega | (simp; omega)) _ | with_reducible refine OwQ.allc ?_ _ | with_reducible refine OwQ.drew ?_ | with_reducible refine OwQ.drewN ?_ _))) (by omega)), belo⟩
      · rename_i v
        rw [hf] at H0 HR
        obtain ⟨rfl, rfl⟩ := H0.out
        have el := HL.out _ _ _ _ hf
        have el2 : l0.length ≤ 4096 := by omega
        clear hf el H0
        go_wp2_with fail
        refine (vector_any A0 l0 c0 σ _ el2 O0.out).mono ?_
        rintro e w5 ⟨l1, s1, A1, c1, E1, rfl, C1, O1, hb⟩
        replace Op := hide ((show OwQ (w.heap.size + 3) _ _ _ by (repeat (first | with_reducible exact Op.out | with_reducible refine OwQ.far ?_ (by first | (simp; done) | omega | (simp; omega)) _ | with_reducible refine OwQ.allc ?_ _ | with_reducible refine OwQ.drew ?_ | with_reducible refine OwQ.drewN ?_ _))).kept hb)
        replace Oq := hide ((show OwQ (w.heap.size + 3) _ _ _ by (repeat (first | with_reducible exact Oq.out | with_reducible refine OwQ.far ?_ (by first | (simp; done) | omega | (simp; omega)) _ | with_reducible refine OwQ.allc ?_ _ | with_reducible refine OwQ.drew ?_ | with_reducible refine OwQ.drewN ?_ _))).kept hb)
        replace Om := hide (Om.out.below hb)
        replace Ok := hide (Ok.out.below hb)
        replace O1 := hide (O1.out.base (show w.heap.size + 3 ≤ _ by first | omega | (simp; omega) | (simp; done)))
        have hB5 : Below w.heap.size w w5 := Below.trans belo (hb.mono (by first | omega | (simp; done) | (simp; omega)))
        obtain ⟨kc5, kf5⟩ := bcell hb
        have hz5 := hb.size
        (try simp at hz5)
        have n5_0 : w.heap.size < w5.heap.size := by omega
        have n5_1 : w.heap.size + 1 < w5.heap.size := by omega
        have n5_2 : w.heap.size + 2 < w5.heap.size := by omega
        have r5_0 : w5.cell? ⟨w.heap.size + 2, 0, none⟩ = some (.slice none 0 0) := (kc5 _ _ (by first | assumption | (simp; done) | omega | (simp; omega))).trans (by first | assumption | (simp [go_sem]; done) | (simp; done))
        have g5_0 : w5.frozen? ⟨w.heap.size + 2, 0, none⟩ = false := (kf5 _ _ (by first | assumption | (simp; done) | omega | (simp; omega))).trans (by first | assumption | (simp [go_sem]; done) | (simp; done))
        have r5_1 : w5.cell? ⟨w.heap.size + 2, 1, none⟩ = some (.bool false) := (kc5 _ _ (by first | assumption | (simp; done) | omega | (simp; omega))).trans (by first | assumption | (simp [go_sem]; done) | (simp; done))
        have g5_1 : w5.frozen? ⟨w.heap.size + 2, 1, none⟩ = false := (kf5 _ _ (by first | assumption | (simp; done) | omega | (simp; omega))).trans (by first | assumption | (simp [go_sem]; done) | (simp; done))
        clear hb
        go_wp2
        refine bodyPost_ret (v := .agg #[.slice A1 l1.length c1, .bool s1]) (by simp [results, Tryz.results119, go_sem, *]) rfl ?_
        exact ⟨l1, s1, A1, c1, hide (E1.out.trans (by rw [HR.out]; simp)), rfl, C1, hide (OwQ.base (B := w.heap.size + 3) (by (repeat (first | with_reducible exact O1.out | with_reducible refine OwQ.far ?_ (by first | (simp; done) | omega | (simp; omega)) _ | with_reducible refine OwQ.allc ?_ _ | with_reducible refine OwQ.drew ?_ | with_reducible refine OwQ.drewN ?_ _))) (by omega)), belo⟩
end
section
open Go.RowKit
set_option maxRecDepth 100000
set_option linter.unusedSimpArgs false
set_option linter.unusedVariables false
theorem total_t (N : Nat) (w : World) : Calls Tryz.prog 120 #[.func (.func N) #[] #[]] w fun e w' => ∃ g, e = .returned (.func (.func 173) #[] #[.pointer (some ⟨g, 0, none⟩)]) ∧ g < w'.heap.size ∧ w'.cell? ⟨g, 0, none⟩ = some (.func (.func N) #[] #[]) ∧ Below w.heap.size w w' :=
  (total_any N w).mono fun e w' h => by
    obtain ⟨rfl, rfl⟩ := h
    refine ⟨w.heap.size, rfl, by simp, ?_, (Below.refl _ _).alloc (Nat.le_refl _) _⟩
    rw [cell_of_row _ _ _ _ _ _ (heap_alloc_new w _)]
    rfl
theorem len_add : ∀ (m n : List Bool) (s : Bool) (l : List Bool), fAdd m n s = some l → l.length = m.length := fun m n s l h => by unfold fAdd at h; injection h with h; rw [← h, vz_length]
theorem len_div : ∀ (m n : List Bool) (s : Bool) (l : List Bool), fDiv m n s = some l → l.length = m.length := fun m n s l h => by unfold fDiv at h; split at h; cases h; injection h with h; rw [← h, vz_length]
theorem vAdd_any (A B : Option Addr) (a b : List Int) (c d : Nat) (s t : Bool) (w : World) (ha : a.length ≤ 4096) (hb : b.length ≤ 4096) (hca : Hid (a.length ≤ c ∧ c ≤ maxLen)) (hcb : Hid (b.length ≤ d ∧ d ≤ maxLen)) (hA : RQ w A a) (hB : RQ w B b) (ya : By a) (yb : By b) :
    Calls Tryz.prog 37 #[.agg #[.slice A a.length c, .bool s], .agg #[.slice B b.length d, .bool t]] w (RetC (· = vAdd ⟨a, s⟩ ⟨b, t⟩) w) := by
  have HA := hide hA
  have HBB := hide hB
  have LA := hide ha
  have LB := hide hb
  have YA := hide ya
  have YB := hide yb
  clear hA hB ha hb ya yb
  go_enter Tryz.func37, Tryz.ntmps37
  go_wp2_with fail
  obtain ⟨W1, hW1⟩ : ∃ x, x = (((w.alloc (Obj.cells #[Value.slice A a.length c, Value.bool s] 24)).alloc (Obj.cells #[Value.slice B b.length d, Value.bool t] 24)).alloc (Obj.cells #[Value.slice none 0 0, Value.bool false] 24)) := ⟨_, rfl⟩
  rw [← hW1]
  have hBW1 : Below w.heap.size w W1 := by rw [hW1]; exact belo
  have qW1_0 : W1.cell? ⟨w.heap.size, 0, none⟩ = some (Value.slice A a.length c) := by rw [hW1]; simp [go_sem]
  have fW1_0 : W1.frozen? ⟨w.heap.size, 0, none⟩ = false := by rw [hW1]; simp [go_sem]
  have qW1_1 : W1.cell? ⟨w.heap.size, 1, none⟩ = some (Value.bool s) := by rw [hW1]; simp [go_sem]
  have fW1_1 : W1.frozen? ⟨w.heap.size, 1, none⟩ = false := by rw [hW1]; simp [go_sem]
  have qW1_2 : W1.cell? ⟨w.heap.size + 1, 0, none⟩ = some (Value.slice B b.length d) := by rw [hW1]; simp [go_sem]
  have fW1_2 : W1.frozen? ⟨w.heap.size + 1, 0, none⟩ = false := by rw [hW1]; simp [go_sem]
  have qW1_3 : W1.cell? ⟨w.heap.size + 1, 1, none⟩ = some (Value.bool t) := by rw [hW1]; simp [go_sem]
  have fW1_3 : W1.frozen? ⟨w.heap.size + 1, 1, none⟩ = false := by rw [hW1]; simp [go_sem]
  have qW1_4 : W1.cell? ⟨w.heap.size + 2, 0, none⟩ = some (Value.slice none 0 0) := by rw [hW1]; simp [go_sem]
  have fW1_4 : W1.frozen? ⟨w.heap.size + 2, 0, none⟩ = false := by rw [hW1]; simp [go_sem]
  have qW1_5 : W1.cell? ⟨w.heap.size + 2, 1, none⟩ = some (Value.bool false) := by rw [hW1]; simp [go_sem]
  have fW1_5 : W1.frozen? ⟨w.heap.size + 2, 1, none⟩ = false := by rw [hW1]; simp [go_sem]
  have zW1_0 : w.heap.size < W1.heap.size := by rw [hW1]; first | (simp; done) | (simp; omega)
  have zW1_1 : w.heap.size + 1 < W1.heap.size := by rw [hW1]; first | (simp; done) | (simp; omega)
  have zW1_2 : w.heap.size + 2 < W1.heap.size := by rw [hW1]; first | (simp; done) | (simp; omega)
  clear hW1
  refine region_anyT (S := fun wS => Below W1.heap.size W1 wS) (n := 4) (by kernel_rfl) (Below.refl _ _).drew (fun hS inv => ?_)
  refine anyT_take (i := 0) (oi := _) (v := Value.agg #[Value.slice A a.length c, Value.bool s]) rfl (by kernel_rfl) (by kernel_rfl) (by kernel_rfl) (by decide) (by decide) (by kernel_rfl) (by kernel_rfl) inv (fun _ _ _ h => h) (Or.inl ⟨by kernel_rfl, ?_⟩) hS (fun inv => ?_)
  · intro wz hSw
    have hk0 := (hSw : Below _ _ _).cell (p := ⟨w.heap.size, 0, none⟩) (by first | assumption | (simp; done) | omega | (simp; omega)); have hk1 := (hSw : Below _ _ _).cell (p := ⟨w.heap.size, 1, none⟩) (by first | assumption | (simp; done) | omega | (simp; omega)); go_simp
  (try simp only [Act.put, List.getElem_toArray, List.getElem_cons_zero, List.getElem_cons_succ, List.setIfInBounds_toArray, List.set_cons_zero, List.set_cons_succ])
  refine anyT_take (i := 1) (oi := _) (v := Value.agg #[Value.slice B b.length d, Value.bool t]) rfl (by kernel_rfl) (by kernel_rfl) (by kernel_rfl) (by decide) (by decide) (by kernel_rfl) (by kernel_rfl) inv (fun _ _ _ h => h) (Or.inl ⟨by kernel_rfl, ?_⟩) hS (fun inv => ?_)
  · intro wz hSw
    have hk0 := (hSw : Below _ _ _).cell (p := ⟨w.heap.size + 1, 0, none⟩) (by first | assumption | (simp; done) | omega | (simp; omega)); have hk1 := (hSw : Below _ _ _).cell (p := ⟨w.heap.size + 1, 1, none⟩) (by first | assumption | (simp; done) | omega | (simp; omega)); go_simp
  (try simp only [Act.put, List.getElem_toArray, List.getElem_cons_zero, List.getElem_cons_succ, List.setIfInBounds_toArray, List.set_cons_zero, List.set_cons_succ])
  refine anyT_ready (rs := [2]) (by kernel_rfl) (by simp) ?_
  refine ReadyT.head (o := _) rfl (by decide) (by kernel_rfl) inv (fun K hK => ?_) ReadyT.nil
  go_simp
  refine (total_t _ _).mono ?_
  rintro e w1 ⟨g1, rfl, hg1, hc1, hb⟩
  go_wp2_with fail
  refine hK.out _ _ ?_ (fun hS inv => ?_)
  · exact (hS : Below W1.heap.size W1 _).trans (hb.mono (Below.size hS))
  clear hK K
  (try simp only [Act.put, List.getElem_toArray, List.getElem_cons_zero, List.getElem_cons_succ, List.setIfInBounds_toArray, List.set_cons_zero, List.set_cons_succ])
  have hB1 : Below w.heap.size w w1 := Below.trans belo (hb.mono (by first | omega | (simp; done) | (simp; omega)))
  obtain ⟨kc1, kf1⟩ := bcell hb
  have hz1 := hb.size
  (try simp at hz1)
  have n1_0 : w.heap.size < w1.heap.size := by omega
  have n1_1 : w.heap.size + 1 < w1.heap.size := by omega
  have n1_2 : w.heap.size + 2 < w1.heap.size := by omega
  have r1_0 : w1.cell? ⟨w.heap.size + 2, 0, none⟩ = some (.slice none 0 0) := (kc1 _ _ (by first | assumption | (simp; done) | omega | (simp; omega))).trans (by first | assumption | (simp [go_sem]; done) | (simp; done))
  have g1_0 : w1.frozen? ⟨w.heap.size + 2, 0, none⟩ = false := (kf1 _ _ (by first | assumption | (simp; done) | omega | (simp; omega))).trans (by first | assumption | (simp [go_sem]; done) | (simp; done))
  have r1_1 : w1.cell? ⟨w.heap.size + 2, 1, none⟩ = some (.bool false) := (kc1 _ _ (by first | assumption | (simp; done) | omega | (simp; omega))).trans (by first | assumption | (simp [go_sem]; done) | (simp; done))
  have g1_1 : w1.frozen? ⟨w.heap.size + 2, 1, none⟩ = false := (kf1 _ _ (by first | assumption | (simp; done) | omega | (simp; omega))).trans (by first | assumption | (simp [go_sem]; done) | (simp; done))
  clear hb
  refine anyT_ready (rs := [3]) (by kernel_rfl) (by simp) ?_
  refine ReadyT.head (o := _) rfl (by decide) (by kernel_rfl) inv (fun K hK => ?_) ReadyT.nil
  go_simp
  refine (arith1_any _ fAdd (.pointer (some ⟨g1, 0, none⟩)) A B a b c d s t _ LA.out LB.out hca hcb (HA.out.below belo) (HBB.out.below belo) YA.out YB.out (opN_total opB_add hg1 hc1) len_add).mono ?_
  rintro e w2 ⟨l1, s1, A1, c1, E1, rfl, C1, O1, hb⟩
  go_wp2_with fail
  refine hK.out _ _ ?_ (fun hS inv => ?_)
  · exact (hS : Below W1.heap.size W1 _).trans (hb.mono (Below.size hS))
  clear hK K
  (try simp only [Act.put, List.getElem_toArray, List.getElem_cons_zero, List.getElem_cons_succ, List.setIfInBounds_toArray, List.set_cons_zero, List.set_cons_succ])
  replace O1 := hide (O1.out.base (show w.heap.size + 3 ≤ _ by first | omega | (simp; omega) | (simp; done)))
  have hB2 : Below w.heap.size w w2 := Below.trans belo (hb.mono (by first | omega | (simp; done) | (simp; omega)))
  obtain ⟨kc2, kf2⟩ := bcell hb
  have hz2 := hb.size
  (try simp at hz2)
  have n2_0 : w.heap.size < w2.heap.size := by omega
  have n2_1 : w.heap.size + 1 < w2.heap.size := by omega
  have n2_2 : w.heap.size + 2 < w2.heap.size := by omega
  have r2_0 : w2.cell? ⟨w.heap.size + 2, 0, none⟩ = some (.slice none 0 0) := (kc2 _ _ (by first | assumption | (simp; done) | omega | (simp; omega))).trans (by first | assumption | (simp [go_sem]; done) | (simp; done))
  have g2_0 : w2.frozen? ⟨w.heap.size + 2, 0, none⟩ = false := (kf2 _ _ (by first | assumption | (simp; done) | omega | (simp; omega))).trans (by first | assumption | (simp [go_sem]; done) | (simp; done))
  have r2_1 : w2.cell? ⟨w.heap.size + 2, 1, none⟩ = some (.bool false) := (kc2 _ _ (by first | assumption | (simp; done) | omega | (simp; omega))).trans (by first | assumption | (simp [go_sem]; done) | (simp; done))
  have g2_1 : w2.frozen? ⟨w.heap.size + 2, 1, none⟩ = false := (kf2 _ _ (by first | assumption | (simp; done) | omega | (simp; omega))).trans (by first | assumption | (simp [go_sem]; done) | (simp; done))
  clear hb
  refine anyT_ready (rs := [4]) (by kernel_rfl) (by simp) ?_
  refine ReadyT.tail (o := _) rfl (by decide) (fun K hK => ?_)
  go_simp
  refine hK.out _ _ ?_
  clear hK K
  (try simp only [Act.put, List.getElem_toArray, List.getElem_cons_zero, List.getElem_cons_succ, List.setIfInBounds_toArray, List.set_cons_zero, List.set_cons_succ])
  refine anyT_done (by kernel_rfl) ?_ _
  go_wp2
  refine bodyPost_ret (v := .agg #[.slice A1 l1.length c1, .bool s1]) (by simp [results, Tryz.results37, go_sem, *]) rfl ?_
  exact ⟨l1, s1, A1, c1, hide (E1.out), rfl, C1, hide (OwQ.base (B := w.heap.size + 3) (by (repeat (first | with_reducible exact O1.out | with_reducible refine OwQ.far ?_ (by first | (simp; done) | omega | (simp; omega)) _ | with_reducible refine OwQ.allc ?_ _ | with_reducible refine OwQ.drew ?_ | with_reducible refine OwQ.drewN ?_ _))) (by omega)), belo⟩
theorem vDiv_any (A B : Option Addr) (a b : List Int) (c d : Nat) (s t : Bool) (w : World) (ha : a.length ≤ 4096) (hb : b.length ≤ 4096) (hca : Hid (a.length ≤ c ∧ c ≤ maxLen)) (hcb : Hid (b.length ≤ d ∧ d ≤ maxLen)) (hA : RQ w A a) (hB : RQ w B b) (ya : By a) (yb : By b) :
    Calls Tryz.prog 44 #[.agg #[.slice A a.length c, .bool s], .agg #[.slice B b.length d, .bool t]] w (RetC (· = vDiv ⟨a, s⟩ ⟨b, t⟩) w) := by
  have HA := hide hA
  have HBB := hide hB
  have LA := hide ha
  have LB := hide hb
  have YA := hide ya
  have YB := hide yb
  clear hA hB ha hb ya yb
  go_enter Tryz.func44, Tryz.ntmps44
  go_wp2_with fail
  refine (arith0_any _ fDiv A B a b c d s t _ LA.out LB.out hca hcb (HA.out.below belo) (HBB.out.below belo) YA.out YB.out (opN_div _) len_div).mono ?_
  rintro e w1 ⟨l1, s1, A1, c1, E1, rfl, C1, O1, hb⟩
  replace O1 := hide (O1.out.base (show w.heap.size + 3 ≤ _ by first | omega | (simp; omega) | (simp; done)))
  have hB1 : Below w.heap.size w w1 := Below.trans belo (hb.mono (by first | omega | (simp; done) | (simp; omega)))
  obtain ⟨kc1, kf1⟩ := bcell hb
  have hz1 := hb.size
  (try simp at hz1)
  have n1_0 : w.heap.size < w1.heap.size := by omega
  have n1_1 : w.heap.size + 1 < w1.heap.size := by omega
  have n1_2 : w.heap.size + 2 < w1.heap.size := by omega
  have r1_0 : w1.cell? ⟨w.heap.size + 2, 0, none⟩ = some (.slice none 0 0) := (kc1 _ _ (by first | assumption | (simp; done) | omega | (simp; omega))).trans (by first | assumption | (simp [go_sem]; done) | (simp; done))
  have g1_0 : w1.frozen? ⟨w.heap.size + 2, 0, none⟩ = false := (kf1 _ _ (by first | assumption | (simp; done) | omega | (simp; omega))).trans (by first | assumption | (simp [go_sem]; done) | (simp; done))
  have r1_1 : w1.cell? ⟨w.heap.size + 2, 1, none⟩ = some (.bool false) := (kc1 _ _ (by first | assumption | (simp; done) | omega | (simp; omega))).trans (by first | assumption | (simp [go_sem]; done) | (simp; done))
  have g1_1 : w1.frozen? ⟨w.heap.size + 2, 1, none⟩ = false := (kf1 _ _ (by first | assumption | (simp; done) | omega | (simp; omega))).trans (by first | assumption | (simp [go_sem]; done) | (simp; done))
  clear hb
  go_wp2
  refine bodyPost_ret (v := .agg #[.slice A1 l1.length c1, .bool s1]) (by simp [results, Tryz.results44, go_sem, *]) rfl ?_
  exact ⟨l1, s1, A1, c1, hide (E1.out), rfl, C1, hide (OwQ.base (B := w.heap.size + 3) (by (repeat (first | with_reducible exact O1.out | with_reducible refine OwQ.far ?_ (by first | (simp; done) | omega | (simp; omega)) _ | with_reducible refine OwQ.allc ?_ _ | with_reducible refine OwQ.drew ?_ | with_reducible refine OwQ.drewN ?_ _))) (by omega)), belo⟩
end
section
open Go.RowKit
set_option maxRecDepth 100000
set_option linter.unusedSimpArgs false
set_option linter.unusedVariables false
/-- What a call leaves that answers a vector or an error. -/
def RetE (e0 : Int) (v0 : Vc) (w : World) (e : Ending) (w' : World) : Prop :=
  ∃ l s A c, Hid (if e0 = 0 then (⟨l, s⟩ : Vc) = v0 else l = [] ∧ s = false) ∧ e = .returned (.tuple #[.agg #[.slice A l.length c, .bool s], .int .i64 e0]) ∧ Hid (l.length ≤ c ∧ c ≤ maxLen) ∧ Hid (OwQ w.heap.size w' A l) ∧ Below w.heap.size w w'
theorem cloneq_q (A : Option Addr) (l : List Int) (c : Nat) (w : World) (hl : l.length ≤ 4096) (h : RQ w A l) :
    Calls Tryz.prog 108 #[.slice A l.length c] w (RetQP (· = l) w) := (cloneq_any A l c w hl h).mono fun _ _ h => RetQP.of_mkV rfl h
theorem vFromInt_any (z n : Int) (s : Bool) (w : World) (h1 : -9223372036854775808 ≤ z) (h2 : z ≤ 9223372036854775807) :
    Calls Tryz.prog 19 #[.int .i64 z, .int .i64 n, .bool s] w (RetE (if 1 ≤ n ∧ n ≤ 128 then 0 else 12) ⟨fb (vz n.toNat z), s⟩ w) := by
  by_cases hn : 1 ≤ n ∧ n ≤ 128
  · rw [if_pos hn]
    obtain ⟨k, rfl⟩ : ∃ k : Nat, n = k := ⟨n.toNat, by omega⟩
    obtain ⟨g1, g2⟩ := hn
    have hk0 : ¬ k = 0 := by omega
    go_enter Tryz.func19, Tryz.ntmps19
    go_wp2_with fail
    refine (from_any z k _ (by omega) h1 h2).mono ?_
    rintro e w1 ⟨A1, c1, rfl, k1, k2, ho, hb⟩
    have hl : (vz k z).length = k := vz_length _ _
    obtain ⟨v, hv⟩ : ∃ v, v = vz k z := ⟨_, rfl⟩
    rw [← hv] at hl ho
    have HV := hide hv
    clear hv k1 k2
    have hv4 : v.length ≤ 4096 := by omega
    have hcall := hide fun W (hW : Below w1.heap.size w1 W) => vector_any A1 v c1 s W hv4 (ho.rd.below hW)
    rw [hl] at hcall
    clear ho hl
    have hB1 : Below w.heap.size w w1 := Below.trans belo (hb.mono (by first | omega | (simp; done) | (simp; omega)))
    obtain ⟨kc1, kf1⟩ := bcell hb
    have hz1 := hb.size
    (try simp at hz1)
    have n1_0 : w.heap.size < w1.heap.size := by omega
    have r1_0 : w1.cell? ⟨w.heap.size, 0, none⟩ = some (.slice none 0 0) := (kc1 _ _ (by first | assumption | (simp; done) | omega | (simp; omega))).trans (by first | assumption | (simp [go_sem]; done) | (simp; done))
    have g1_0 : w1.frozen? ⟨w.heap.size, 0, none⟩ = false := (kf1 _ _ (by first | assumption | (simp; done) | omega | (simp; omega))).trans (by first | assumption | (simp [go_sem]; done) | (simp; done))
    have r1_1 : w1.cell? ⟨w.heap.size, 1, none⟩ = some (.bool false) := (kc1 _ _ (by first | assumption | (simp; done) | omega | (simp; omega))).trans (by first | assumption | (simp [go_sem]; done) | (simp; done))
    have g1_1 : w1.frozen? ⟨w.heap.size, 1, none⟩ = false := (kf1 _ _ (by first | assumption | (simp; done) | omega | (simp; omega))).trans (by first | assumption | (simp [go_sem]; done) | (simp; done))
    clear hb
    go_wp2_with fail
    refine (hcall.out _ (Below.refl _ _)).mono ?_
    rintro e w2 ⟨l2, s2, A2, c2, E2, rfl, C2, O2, hb⟩
    replace O2 := hide (O2.out.base (show w.heap.size + 1 ≤ _ by first | omega | (simp; omega) | (simp; done)))
    have hB2 : Below w.heap.size w w2 := Below.trans belo (hb.mono (by first | omega | (simp; done) | (simp; omega)))
    obtain ⟨kc2, kf2⟩ := bcell hb
    have hz2 := hb.size
    (try simp at hz2)
    have n2_0 : w.heap.size < w2.heap.size := by omega
    have r2_0 : w2.cell? ⟨w.heap.size, 0, none⟩ = some (.slice none 0 0) := (kc2 _ _ (by first | assumption | (simp; done) | omega | (simp; omega))).trans (by first | assumption | (simp [go_sem]; done) | (simp; done))
    have g2_0 : w2.frozen? ⟨w.heap.size, 0, none⟩ = false := (kf2 _ _ (by first | assumption | (simp; done) | omega | (simp; omega))).trans (by first | assumption | (simp [go_sem]; done) | (simp; done))
    have r2_1 : w2.cell? ⟨w.heap.size, 1, none⟩ = some (.bool false) := (kc2 _ _ (by first | assumption | (simp; done) | omega | (simp; omega))).trans (by first | assumption | (simp [go_sem]; done) | (simp; done))
    have g2_1 : w2.frozen? ⟨w.heap.size, 1, none⟩ = false := (kf2 _ _ (by first | assumption | (simp; done) | omega | (simp; omega))).trans (by first | assumption | (simp [go_sem]; done) | (simp; done))
    clear hb
    go_wp2
    refine bodyPost_ret (v := .tuple #[.agg #[.slice A2 l2.length c2, .bool s2], .int .i64 0]) (by simp [results, Tryz.results19, go_sem, *]) rfl ?_
    exact ⟨l2, s2, A2, c2, hide (by rw [if_pos rfl]; exact E2.out.trans (by rw [HV.out]; rfl)), rfl, C2, hide (OwQ.base (B := w.heap.size + 1) (by (repeat (first | with_reducible exact O2.out | with_reducible refine OwQ.far ?_ (by first | (simp; done) | omega | (simp; omega)) _ | with_reducible refine OwQ.allc ?_ _ | with_reducible refine OwQ.drew ?_ | with_reducible refine OwQ.drewN ?_ _))) (by omega)), belo⟩
  · rw [if_neg hn]
    by_cases hz : n = 0
    · subst hz
      go_enter Tryz.func19, Tryz.ntmps19
      go_wp2_with fail
      refine (from_any z 0 _ (by omega) h1 h2).mono ?_
      rintro e w1 ⟨A1, c1, rfl, k1, k2, ho, hb⟩
      clear ho k1 k2
      have hB1 : Below w.heap.size w w1 := Below.trans belo (hb.mono (by first | omega | (simp; done) | (simp; omega)))
      obtain ⟨kc1, kf1⟩ := bcell hb
      have hz1 := hb.size
      (try simp at hz1)
      have n1_0 : w.heap.size < w1.heap.size := by omega
      clear hb
      go_wp2
      refine bodyPost_ret (v := .tuple #[.agg #[.slice none 0 0, .bool false], .int .i64 12]) (by simp [results, Tryz.results19, go_sem, *]) rfl ?_
      exact ⟨[], false, none, 0, hide (by rw [if_neg (by decide)]; exact ⟨rfl, rfl⟩), rfl, hide ⟨Nat.le_refl _, by simp [maxLen]⟩, hide (fun h => absurd h (by simp)), belo⟩
    · have hcall := hide fun w => from_err z n w (by omega)
      go_enter Tryz.func19, Tryz.ntmps19
      go_wp2_with fail
      refine (hcall.out _).mono ?_
      rintro e w' ⟨rfl, rfl⟩
      go_wp2
      refine bodyPost_ret (v := .tuple #[.agg #[.slice none 0 0, .bool false], .int .i64 12]) (by simp [results, Tryz.results19, go_sem, *]) rfl ?_
      exact ⟨[], false, none, 0, hide (by rw [if_neg (by decide)]; exact ⟨rfl, rfl⟩), rfl, hide ⟨Nat.le_refl _, by simp [maxLen]⟩, hide (fun h => absurd h (by simp)), belo⟩
theorem vUnknown_any (n : Int) (s : Bool) (w : World) :
    Calls Tryz.prog 21 #[.int .i64 n, .bool s] w (RetE (if 1 ≤ n ∧ n ≤ 128 then 0 else 12) (xs n.toNat s) w) := by
  have hcall := hide fun w => fits_any n w
  by_cases hn : 1 ≤ n ∧ n ≤ 128
  · rw [if_pos hn]
    rw [decide_eq_true hn] at hcall
    obtain ⟨k, rfl⟩ : ∃ k : Nat, n = k := ⟨n.toNat, by omega⟩
    obtain ⟨g1, g2⟩ := hn
    rw [Int.toNat_natCast]
    go_enter Tryz.func21, Tryz.ntmps21
    go_wp2_with fail
    refine (hcall.out _).mono ?_
    rintro e w' ⟨rfl, rfl⟩
    go_wp2_with fail
    refine (unknown_any k s _ (by omega) (by omega)).mono ?_
    rintro e w1 ⟨l1, s1, A1, c1, E1, rfl, C1, O1, hb⟩
    replace O1 := hide (O1.out.base (show w.heap.size + 1 ≤ _ by first | omega | (simp; omega) | (simp; done)))
    have hB1 : Below w.heap.size w w1 := Below.trans belo (hb.mono (by first | omega | (simp; done) | (simp; omega)))
    obtain ⟨kc1, kf1⟩ := bcell hb
    have hz1 := hb.size
    (try simp at hz1)
    have n1_0 : w.heap.size < w1.heap.size := by omega
    have r1_0 : w1.cell? ⟨w.heap.size, 0, none⟩ = some (.slice none 0 0) := (kc1 _ _ (by first | assumption | (simp; done) | omega | (simp; omega))).trans (by first | assumption | (simp [go_sem]; done) | (simp; done))
    have g1_0 : w1.frozen? ⟨w.heap.size, 0, none⟩ = false := (kf1 _ _ (by first | assumption | (simp; done) | omega | (simp; omega))).trans (by first | assumption | (simp [go_sem]; done) | (simp; done))
    have r1_1 : w1.cell? ⟨w.heap.size, 1, none⟩ = some (.bool false) := (kc1 _ _ (by first | assumption | (simp; done) | omega | (simp; omega))).trans (by first | assumption | (simp [go_sem]; done) | (simp; done))
    have g1_1 : w1.frozen? ⟨w.heap.size, 1, none⟩ = false := (kf1 _ _ (by first | assumption | (simp; done) | omega | (simp; omega))).trans (by first | assumption | (simp [go_sem]; done) | (simp; done))
    clear hb
    go_wp2
    refine bodyPost_ret (v := .tuple #[.agg #[.slice A1 l1.length c1, .bool s1], .int .i64 0]) (by simp [results, Tryz.results21, go_sem, *]) rfl ?_
    exact ⟨l1, s1, A1, c1, hide (by rw [if_pos rfl]; exact E1.out), rfl, C1, hide (OwQ.base (B := w.heap.size + 1) (by (repeat (first | with_reducible exact O1.out | with_reducible refine OwQ.far ?_ (by first | (simp; done) | omega | (simp; omega)) _ | with_reducible refine OwQ.allc ?_ _ | with_reducible refine OwQ.drew ?_ | with_reducible refine OwQ.drewN ?_ _))) (by omega)), belo⟩
  · rw [if_neg hn]
    rw [decide_eq_false hn] at hcall
    go_enter Tryz.func21, Tryz.ntmps21
    go_wp2_with fail
    refine (hcall.out _).mono ?_
    rintro e w' ⟨rfl, rfl⟩
    go_wp2
    refine bodyPost_ret (v := .tuple #[.agg #[.slice none 0 0, .bool false], .int .i64 12]) (by simp [results, Tryz.results21, go_sem, *]) rfl ?_
    exact ⟨[], false, none, 0, hide (by rw [if_neg (by decide)]; exact ⟨rfl, rfl⟩), rfl, hide ⟨Nat.le_refl _, by simp [maxLen]⟩, hide (fun h => absurd h (by simp)), belo⟩
theorem resized_q (A : Option Addr) (a : List Int) (c n : Nat) (s : Bool) (w : World) (h1 : 0 < a.length) (ha : a.length ≤ 4096) (hn : n ≤ 4096) (hA : RQ w A a) :
    Calls Tryz.prog 102 #[.agg #[.slice A a.length c, .bool s], .int .i64 n] w (RetQP (· = rsz ⟨a, s⟩ n) w) := (resized_any A a c n s w h1 ha hn hA).mono fun _ _ h => RetQP.of_mkV rfl h
theorem vResize_any (n : Int) (A : Option Addr) (a : List Int) (c : Nat) (s : Bool) (w : World) (ha : a.length ≤ 4096) (hca : Hid (a.length ≤ c ∧ c ≤ maxLen)) (hA : RQ w A a) (ya : By a) :
    Calls Tryz.prog 23 #[.agg #[.slice A a.length c, .bool s], .int .i64 n] w (RetE (if 1 ≤ n ∧ n ≤ 128 then 0 else 12) ⟨rsz (cnt ⟨a, s⟩) n.toNat, (cnt ⟨a, s⟩).s⟩ w) := by
  have HA := hide hA
  have LA := hide ha
  have YA := hide ya
  clear hA ha ya
  have hcall := hide fun w => fits_any n w
  by_cases hn : 1 ≤ n ∧ n ≤ 128
  · rw [if_pos hn]
    rw [decide_eq_true hn] at hcall
    obtain ⟨k, rfl⟩ : ∃ k : Nat, n = k := ⟨n.toNat, by omega⟩
    obtain ⟨g1, g2⟩ := hn
    rw [Int.toNat_natCast]
    go_enter Tryz.func23, Tryz.ntmps23
    go_wp2_with fail
    refine (hcall.out _).mono ?_
    rintro e w' ⟨rfl, rfl⟩
    go_wp2_with fail
    refine (counted_any A a c s w _ LA.out hca HA.out belo).mono ?_
    rintro e w1 ⟨l1, s1, A1, c1, E1, rfl, C1, O1, hb⟩
    replace O1 := hide (O1.out.lower (show w.heap.size + 2 ≤ _ by first | omega | (simp; omega) | (simp; done)))
    have hB1 : Below w.heap.size w w1 := Below.trans belo (hb.mono (by first | omega | (simp; done) | (simp; omega)))
    obtain ⟨kc1, kf1⟩ := bcell hb
    have hz1 := hb.size
    (try simp at hz1)
    have n1_0 : w.heap.size < w1.heap.size := by omega
    have n1_1 : w.heap.size + 1 < w1.heap.size := by omega
    have r1_0 : w1.cell? ⟨w.heap.size + 1, 0, none⟩ = some (.slice none 0 0) := (kc1 _ _ (by first | assumption | (simp; done) | omega | (simp; omega))).trans (by first | assumption | (simp [go_sem]; done) | (simp; done))
    have g1_0 : w1.frozen? ⟨w.heap.size + 1, 0, none⟩ = false := (kf1 _ _ (by first | assumption | (simp; done) | omega | (simp; omega))).trans (by first | assumption | (simp [go_sem]; done) | (simp; done))
    have r1_1 : w1.cell? ⟨w.heap.size + 1, 1, none⟩ = some (.bool false) := (kc1 _ _ (by first | assumption | (simp; done) | omega | (simp; omega))).trans (by first | assumption | (simp [go_sem]; done) | (simp; done))
    have g1_1 : w1.frozen? ⟨w.heap.size + 1, 1, none⟩ = false := (kf1 _ _ (by first | assumption | (simp; done) | omega | (simp; omega))).trans (by first | assumption | (simp [go_sem]; done) | (simp; done))
    clear hb
    have m1_0 : w1.cell? ⟨w.heap.size, 0, none⟩ = some (.slice A a.length c) := (kc1 _ _ (by first | assumption | (simp; done) | omega | (simp; omega))).trans (by first | assumption | (simp [go_sem]; done))
    have v1_0 : w1.frozen? ⟨w.heap.size, 0, none⟩ = false := (kf1 _ _ (by first | assumption | (simp; done) | omega | (simp; omega))).trans (by first | assumption | (simp [go_sem]; done))
    have m1_1 : w1.cell? ⟨w.heap.size, 1, none⟩ = some (.bool s) := (kc1 _ _ (by first | assumption | (simp; done) | omega | (simp; omega))).trans (by first | assumption | (simp [go_sem]; done))
    have v1_1 : w1.frozen? ⟨w.heap.size, 1, none⟩ = false := (kf1 _ _ (by first | assumption | (simp; done) | omega | (simp; omega))).trans (by first | assumption | (simp [go_sem]; done))
    have G1 : Gd l1 := by have h := cnt_gd (v := ⟨a, s⟩) YA.out; rw [← E1.out] at h; exact h
    have HG1 := hide G1
    have u1 := G1.le
    have p1 := G1.pos
    clear G1
    go_wp2_with fail
    obtain ⟨V, hV⟩ : ∃ x, x = ((w1.setCell ⟨w.heap.size, 0, none⟩ (.slice A1 l1.length c1)).setCell ⟨w.heap.size, 1, none⟩ (.bool s1)) := ⟨_, rfl⟩
    rw [← hV]
    have hBV : Below w.heap.size w V := by rw [hV]; exact belo
    have qV0_0 : V.cell? ⟨w.heap.size, 0, none⟩ = some (.slice A1 l1.length c1) := by rw [hV]; (repeat (first | with_reducible refine cset_eq' ?_ | with_reducible refine cset_ne (by first | (simp; done) | (simp; omega)) ?_ | with_reducible refine cset_ex ?_ | exact ⟨_, by assumption⟩ | assumption))
    have jV0_0 : V.frozen? ⟨w.heap.size, 0, none⟩ = false := by rw [hV]; (repeat (first | with_reducible refine fset ?_ | assumption))
    have qV0_1 : V.cell? ⟨w.heap.size, 1, none⟩ = some (.bool s1) := by rw [hV]; (repeat (first | with_reducible refine cset_eq' ?_ | with_reducible refine cset_ne (by first | (simp; done) | (simp; omega)) ?_ | with_reducible refine cset_ex ?_ | exact ⟨_, by assumption⟩ | assumption))
    have jV0_1 : V.frozen? ⟨w.heap.size, 1, none⟩ = false := by rw [hV]; (repeat (first | with_reducible refine fset ?_ | assumption))
    have qV1_0 : V.cell? ⟨w.heap.size + 1, 0, none⟩ = some (.slice none 0 0) := by rw [hV]; (repeat (first | with_reducible refine cset_eq' ?_ | with_reducible refine cset_ne (by first | (simp; done) | (simp; omega)) ?_ | with_reducible refine cset_ex ?_ | exact ⟨_, by assumption⟩ | assumption))
    have jV1_0 : V.frozen? ⟨w.heap.size + 1, 0, none⟩ = false := by rw [hV]; (repeat (first | with_reducible refine fset ?_ | assumption))
    have qV1_1 : V.cell? ⟨w.heap.size + 1, 1, none⟩ = some (.bool false) := by rw [hV]; (repeat (first | with_reducible refine cset_eq' ?_ | with_reducible refine cset_ne (by first | (simp; done) | (simp; omega)) ?_ | with_reducible refine cset_ex ?_ | exact ⟨_, by assumption⟩ | assumption))
    have jV1_1 : V.frozen? ⟨w.heap.size + 1, 1, none⟩ = false := by rw [hV]; (repeat (first | with_reducible refine fset ?_ | assumption))
    have nV_0 : w.heap.size < V.heap.size := by rw [hV]; simp; omega
    have nV_1 : w.heap.size + 1 < V.heap.size := by rw [hV]; simp; omega
    replace O1 := hide (show RG w.heap.size (w.heap.size + 2) V A1 l1 by rw [hV]; (repeat (first | with_reducible exact O1.out | with_reducible refine RG.setc ?_ (by first | (simp; done) | omega | (simp; omega)) (by first | (simp; done) | omega | (simp; omega)) _ | with_reducible refine RG.allc ?_ _ | with_reducible refine RG.drew ?_ | with_reducible refine RG.drewN ?_ _)))
    clear hV kc1 kf1
    refine region_anyT (S := fun wS => Below V.heap.size V wS) (n := 6) (by kernel_rfl) (Below.refl _ _).drew (fun hS inv => ?_)
    refine anyT_take (i := 0) (oi := _) (v := Value.agg #[Value.slice A1 l1.length c1, Value.bool s1]) rfl (by kernel_rfl) (by kernel_rfl) (by kernel_rfl) (by decide) (by decide) (by kernel_rfl) (by kernel_rfl) inv (fun _ _ _ h => h) (Or.inl ⟨by kernel_rfl, ?_⟩) hS (fun inv => ?_)
    · intro wz hSw
      have hk0 := (hSw : Below _ _ _).cell (p := ⟨w.heap.size, 0, none⟩) (by first | assumption | (simp; done) | omega | (simp; omega)); have hk1 := (hSw : Below _ _ _).cell (p := ⟨w.heap.size, 1, none⟩) (by first | assumption | (simp; done) | omega | (simp; omega)); go_simp
    (try simp only [Act.put, List.getElem_toArray, List.getElem_cons_zero, List.getElem_cons_succ, List.setIfInBounds_toArray, List.set_cons_zero, List.set_cons_succ])
    refine anyT_take (i := 1) (oi := _) (v := Value.int IntKind.i64 ↑k) rfl (by kernel_rfl) (by kernel_rfl) (by kernel_rfl) (by decide) (by decide) (by kernel_rfl) (by kernel_rfl) inv (fun _ _ _ h => h) (Or.inl ⟨by kernel_rfl, ?_⟩) hS (fun inv => ?_)
    · intro wz hSw
      first | kernel_rfl | go_simp
    (try simp only [Act.put, List.getElem_toArray, List.getElem_cons_zero, List.getElem_cons_succ, List.setIfInBounds_toArray, List.set_cons_zero, List.set_cons_succ])
    refine anyT_take (i := 3) (oi := _) (v := Value.pointer (some ⟨w.heap.size, 1, none⟩)) rfl (by kernel_rfl) (by kernel_rfl) (by kernel_rfl) (by decide) (by decide) (by kernel_rfl) (by kernel_rfl) inv (fun _ _ _ h => h) (Or.inl ⟨by kernel_rfl, ?_⟩) hS (fun inv => ?_)
    · intro wz hSw
      first | kernel_rfl | go_simp
    (try simp only [Act.put, List.getElem_toArray, List.getElem_cons_zero, List.getElem_cons_succ, List.setIfInBounds_toArray, List.set_cons_zero, List.set_cons_succ])
    refine anyT_take (i := 4) (oi := _) (v := Value.bool s1) rfl (by kernel_rfl) (by kernel_rfl) (by kernel_rfl) (by decide) (by decide) (by kernel_rfl) (by kernel_rfl) inv (fun _ _ _ h => h) (Or.inl ⟨by kernel_rfl, ?_⟩) hS (fun inv => ?_)
    · intro wz hSw
      have hk0 := (hSw : Below _ _ _).cell (p := ⟨w.heap.size, 1, none⟩) (by first | assumption | (simp; done) | omega | (simp; omega)); go_simp
    (try simp only [Act.put, List.getElem_toArray, List.getElem_cons_zero, List.getElem_cons_succ, List.setIfInBounds_toArray, List.set_cons_zero, List.set_cons_succ])
    refine anyT_ready (rs := [2]) (by kernel_rfl) (by simp) ?_
    refine ReadyT.head (o := _) rfl (by decide) (by kernel_rfl) inv (fun K hK => ?_) ReadyT.nil
    go_simp
    refine (resized_q A1 l1 c1 k s1 _ p1 (by omega) (by omega) (by refine RG.rd (B0 := w.heap.size) (B1 := w.heap.size + 2) ?_; (repeat (first | with_reducible exact O1.out | with_reducible refine RG.setc ?_ (by first | (simp; done) | omega | (simp; omega)) (by first | (simp; done) | omega | (simp; omega)) _ | with_reducible refine RG.allc ?_ _ | with_reducible refine RG.drew ?_ | with_reducible refine RG.drewN ?_ _)))).mono ?_
    rintro e w2 ⟨l2, A2, c2, E2, rfl, C2, O2, hb⟩
    go_wp2_with fail
    refine hK.out _ _ ?_ (fun hS inv => ?_)
    · exact (hS : Below V.heap.size V _).trans (hb.mono (Below.size hS))
    clear hK K
    (try simp only [Act.put, List.getElem_toArray, List.getElem_cons_zero, List.getElem_cons_succ, List.setIfInBounds_toArray, List.set_cons_zero, List.set_cons_succ])
    replace O1 := hide ((show RG w.heap.size (w.heap.size + 2) _ A1 l1 by (repeat (first | with_reducible exact O1.out | with_reducible refine RG.setc ?_ (by first | (simp; done) | omega | (simp; omega)) (by first | (simp; done) | omega | (simp; omega)) _ | with_reducible refine RG.allc ?_ _ | with_reducible refine RG.drew ?_ | with_reducible refine RG.drewN ?_ _))).kept hb)
    replace O2 := hide (O2.out.base (show w.heap.size + 2 ≤ _ by first | omega | (simp; omega) | (simp; done)))
    have hB2 : Below w.heap.size w w2 := Below.trans belo (hb.mono (by first | omega | (simp; done) | (simp; omega)))
    obtain ⟨kc2, kf2⟩ := bcell hb
    have hz2 := hb.size
    (try simp at hz2)
    have n2_0 : w.heap.size < w2.heap.size := by omega
    have n2_1 : w.heap.size + 1 < w2.heap.size := by omega
    have m2_0 : w2.cell? ⟨w.heap.size, 0, none⟩ = some (.slice A1 l1.length c1) := (kc2 _ _ (by first | assumption | (simp; done) | omega | (simp; omega))).trans (by first | assumption | (simp [go_sem]; done))
    have v2_0 : w2.frozen? ⟨w.heap.size, 0, none⟩ = false := (kf2 _ _ (by first | assumption | (simp; done) | omega | (simp; omega))).trans (by first | assumption | (simp [go_sem]; done))
    have m2_1 : w2.cell? ⟨w.heap.size, 1, none⟩ = some (.bool s1) := (kc2 _ _ (by first | assumption | (simp; done) | omega | (simp; omega))).trans (by first | assumption | (simp [go_sem]; done))
    have v2_1 : w2.frozen? ⟨w.heap.size, 1, none⟩ = false := (kf2 _ _ (by first | assumption | (simp; done) | omega | (simp; omega))).trans (by first | assumption | (simp [go_sem]; done))
    have m2_2 : w2.cell? ⟨w.heap.size + 1, 0, none⟩ = some (.slice none 0 0) := (kc2 _ _ (by first | assumption | (simp; done) | omega | (simp; omega))).trans (by first | assumption | (simp [go_sem]; done))
    have v2_2 : w2.frozen? ⟨w.heap.size + 1, 0, none⟩ = false := (kf2 _ _ (by first | assumption | (simp; done) | omega | (simp; omega))).trans (by first | assumption | (simp [go_sem]; done))
    have m2_3 : w2.cell? ⟨w.heap.size + 1, 1, none⟩ = some (.bool false) := (kc2 _ _ (by first | assumption | (simp; done) | omega | (simp; omega))).trans (by first | assumption | (simp [go_sem]; done))
    have v2_3 : w2.frozen? ⟨w.heap.size + 1, 1, none⟩ = false := (kf2 _ _ (by first | assumption | (simp; done) | omega | (simp; omega))).trans (by first | assumption | (simp [go_sem]; done))
    clear kc2 kf2
    clear hb
    refine anyT_take (i := 5) (oi := _) (v := Value.agg #[Value.slice A2 l2.length c2, Value.bool s1]) rfl (by kernel_rfl) (by kernel_rfl) (by kernel_rfl) (by decide) (by decide) (by kernel_rfl) (by kernel_rfl) inv (fun _ _ _ h => h) (Or.inl ⟨by kernel_rfl, ?_⟩) hS (fun inv => ?_)
    · intro wz hSw
      first | kernel_rfl | go_simp
    (try simp only [Act.put, List.getElem_toArray, List.getElem_cons_zero, List.getElem_cons_succ, List.setIfInBounds_toArray, List.set_cons_zero, List.set_cons_succ])
    refine anyT_ready (rs := [6]) (by kernel_rfl) (by simp) ?_
    refine ReadyT.tail (o := _) rfl (by decide) (fun K hK => ?_)
    go_simp
    refine hK.out _ _ ?_
    clear hK K
    (try simp only [Act.put, List.getElem_toArray, List.getElem_cons_zero, List.getElem_cons_succ, List.setIfInBounds_toArray, List.set_cons_zero, List.set_cons_succ])
    refine anyT_ready (rs := [7]) (by kernel_rfl) (by simp) ?_
    refine ReadyT.tail (o := _) rfl (by decide) (fun K hK => ?_)
    go_simp
    refine hK.out _ _ ?_
    clear hK K
    (try simp only [Act.put, List.getElem_toArray, List.getElem_cons_zero, List.getElem_cons_succ, List.setIfInBounds_toArray, List.set_cons_zero, List.set_cons_succ])
    refine anyT_done (by kernel_rfl) ?_ _
    go_wp2
    refine bodyPost_ret (v := .tuple #[.agg #[.slice A2 l2.length c2, .bool s1], .int .i64 0]) (by simp [results, Tryz.results23, go_sem, *]) rfl ?_
    exact ⟨l2, s1, A2, c2, hide (by rw [if_pos rfl]; exact (by rw [E2.out, ← E1.out])), rfl, C2, hide (OwQ.base (B := w.heap.size + 2) (by (repeat (first | with_reducible exact O2.out | with_reducible refine OwQ.far ?_ (by first | (simp; done) | omega | (simp; omega)) _ | with_reducible refine OwQ.allc ?_ _ | with_reducible refine OwQ.drew ?_ | with_reducible refine OwQ.drewN ?_ _))) (by omega)), belo⟩
  · rw [if_neg hn]
    rw [decide_eq_false hn] at hcall
    go_enter Tryz.func23, Tryz.ntmps23
    go_wp2_with fail
    refine (hcall.out _).mono ?_
    rintro e w' ⟨rfl, rfl⟩
    go_wp2
    refine bodyPost_ret (v := .tuple #[.agg #[.slice none 0 0, .bool false], .int .i64 12]) (by simp [results, Tryz.results23, go_sem, *]) rfl ?_
    exact ⟨[], false, none, 0, hide (by rw [if_neg (by decide)]; exact ⟨rfl, rfl⟩), rfl, hide ⟨Nat.le_refl _, by simp [maxLen]⟩, hide (fun h => absurd h (by simp)), belo⟩
end
end Go.Proofs.YtbcpeagannjgpaaGreatDoor
