/-
  The contract of package bv's DivMod.
-/
import Derived.Test.YtkjiaflmaniplaaBvH
import Derived.Deep.CutRange
import Derived.Deep.DeepCutAuto
namespace Go.Proofs.Ytkjiaflmaniplaa
open Go.RowKit
set_option linter.unusedSimpArgs false
set_option linter.unusedVariables false

def Zer (n : Nat) : Obj := .cells (madeCells #[.bool false] n) 4
theorem run_mk (n : Nat) (hn : n ≤ 4096) (w : World) : (Instr.makeSlice 22 (.int .i64 (n : Int)) (.int .i64 (n : Int))).run Try.prog w = .ok (.slice (some ⟨w.heap.size, 0, none⟩) n n) (w.alloc (Zer n)) := by
  obtain ⟨i0, hi, hz0, hz1, hz2⟩ := info_parts bool_info
  have h := run_make (P := Try.prog) w 22 4 i0 (.bool false) Try.underlying22 hi hz0 .i64 .i64 n n (by omega) (by omega) (by rw [hz2]; omega) (by omega)
  rw [h, hz1]
  simp [Zer, Value.cells]
theorem zer_row (w : World) (n : Nat) : RowF (w.alloc (Zer n)) w.heap.size n (fun _ => false) := by
  refine ⟨_, heap_alloc_new w _, fun i hi => ?_⟩
  rw [← Array.getElem?_toList, toList_madeCells_one]
  simp [hi]
/-- Two new rows of zeros, in slots of q and r. -/
def Div0 (w : World) (n : Nat) (q r : Value) (wc : World) : Prop :=
  ∃ g h, q = .slice (some ⟨g, 0, none⟩) n n ∧ r = .slice (some ⟨h, 0, none⟩) n n ∧ w.heap.size ≤ g ∧ w.heap.size ≤ h ∧ RowF wc g n (fun _ => false) ∧ RowF wc h n (fun _ => false) ∧ Below w.heap.size w wc

theorem div0_a (w : World) (n : Nat) : Div0 w n (.slice (some ⟨w.heap.size, 0, none⟩) n n) (.slice (some ⟨w.heap.size + 1, 0, none⟩) n n) (((w.alloc (Zer n)).alloc (Zer n)).drew) := by
  have h := zer_row (w.alloc (Zer n)) n
  rw [show (w.alloc (Zer n)).heap.size = w.heap.size + 1 by simp] at h
  exact ⟨_, _, rfl, rfl, Nat.le_refl _, by omega, (zer_row w n).alloc _, h, (((Below.refl _ _).alloc (Nat.le_refl _) _).alloc (by simp) _).drew⟩
theorem div0_b (w : World) (n : Nat) : Div0 w n (.slice (some ⟨w.heap.size + 1, 0, none⟩) n n) (.slice (some ⟨w.heap.size, 0, none⟩) n n) (((w.alloc (Zer n)).alloc (Zer n)).drew) := by
  obtain ⟨g, h, e1, e2, h1, h2, h3, h4, h5⟩ := div0_a w n
  exact ⟨h, g, e2, e1, h2, h1, h4, h3, h5⟩
/-- The part of the dividend that has been taken. -/
theorem top_step (a : List Bool) (k : Nat) (hk : k < a.length) : (nv a / 2 ^ (a.length - (k + 1)) : Nat) = 2 * (nv a / 2 ^ (a.length - k)) + (bt a (a.length - 1 - k)).toNat := by
  obtain ⟨m, hm⟩ : ∃ m, a.length = m + (k + 1) := ⟨a.length - (k + 1), by omega⟩
  have e1 : a.length - (k + 1) = m := by omega
  have e2 : a.length - k = m + 1 := by omega
  have e3 : a.length - 1 - k = m := by omega
  rw [e1, e2, e3]
  have h := zb_nv a m
  unfold zb at h
  have p : ((nv a / 2 ^ m : Nat) : Int) = (nv a : Int) / 2 ^ m := by simp
  rw [← p] at h
  rw [Nat.pow_succ, ← Nat.div_div_eq_div_mul]
  generalize nv a / 2 ^ m = x at *
  cases hb : bt a m
  · rw [hb] at h
    have := of_decide_eq_false h
    simp; omega
  · rw [hb] at h
    have := of_decide_eq_true h
    simp; omega
theorem top_lt (a : List Bool) (k : Nat) (hk : k ≤ a.length) : nv a / 2 ^ (a.length - k) < 2 ^ k := by
  have h := nv_lt a
  rw [Nat.div_lt_iff_lt_mul (Nat.pow_pos (by decide)), ← Nat.pow_add, show k + (a.length - k) = a.length by omega]
  exact h
/-- The quotient's row: one more bit. -/
theorem quo_bit (Q : Int) (m j : Nat) (b : Bool) : zb ((2 * Q + b.toNat) * 2 ^ m) j = if j = m then b else zb (Q * 2 ^ (m + 1)) j := by
  rw [zb_mul, zb_mul]
  by_cases h : j = m
  · subst h
    rw [if_neg (by omega), if_pos rfl, Nat.sub_self]
    unfold zb
    rw [Int.pow_zero, Int.ediv_one]
    cases b
    · apply decide_eq_false; simp
    · apply decide_eq_true; simp
  · rw [if_neg h]
    by_cases h1 : j < m
    · rw [if_pos h1, if_pos (by omega)]
    · rw [if_neg h1, if_neg (by omega)]
      obtain ⟨i, rfl⟩ : ∃ i, j = m + (i + 1) := ⟨j - m - 1, by omega⟩
      rw [show m + (i + 1) - m = i + 1 by omega, show m + (i + 1) - (m + 1) = i by omega, ← zb_div _ 1 i]
      congr 1
      rw [Int.pow_one]
      cases b <;> simp <;> omega
/-- A round of DivMod: the quotient's row, the remainder. -/
structure DivR (w : World) (a : List Bool) (D g k : Nat) (r : List Bool) (H : Option Addr) (wr : World) : Prop where
  lr : r.length = a.length
  rem : nv r = nv a / 2 ^ (a.length - k) % D
  row : RowF wr g a.length (zb (((nv a / 2 ^ (a.length - k) / D : Nat) : Int) * 2 ^ (a.length - k)))
  own : Own w.heap.size wr H r
  bel : Below w.heap.size w wr
theorem div_yes {X D b : Nat} (hD : 0 < D) (hb : b ≤ 1) (h : D ≤ 2 * (X % D) + b) : (2 * X + b) % D = 2 * (X % D) + b - D ∧ (2 * X + b) / D = 2 * (X / D) + 1 := by
  have d := Nat.mod_add_div X D
  have lt := Nat.mod_lt X hD
  generalize X % D = r at *
  generalize X / D = q at *
  have e : 2 * X + b = (2 * r + b - D) + D * (2 * q + 1) := by
    rw [← d, Nat.mul_add D, Nat.mul_one, Nat.mul_add 2]
    have : 2 * (D * q) = D * (2 * q) := by rw [← Nat.mul_assoc, Nat.mul_comm 2 D, Nat.mul_assoc]
    omega
  rw [e]
  constructor
  · rw [Nat.add_mul_mod_self_left, Nat.mod_eq_of_lt (by omega)]
  · rw [Nat.add_mul_div_left _ _ hD, Nat.div_eq_of_lt (by omega)]; omega
theorem div_no {X D b : Nat} (hD : 0 < D) (h : 2 * (X % D) + b < D) : (2 * X + b) % D = 2 * (X % D) + b ∧ (2 * X + b) / D = 2 * (X / D) := by
  have d := Nat.mod_add_div X D
  generalize X % D = r at *
  generalize X / D = q at *
  have e : 2 * X + b = (2 * r + b) + D * (2 * q) := by
    rw [← d, Nat.mul_add 2]
    have : 2 * (D * q) = D * (2 * q) := by rw [← Nat.mul_assoc, Nat.mul_comm 2 D, Nat.mul_assoc]
    omega
  rw [e]
  constructor
  · rw [Nat.add_mul_mod_self_left, Nat.mod_eq_of_lt h]
  · rw [Nat.add_mul_div_left _ _ hD, Nat.div_eq_of_lt h]; omega
theorem rem_next {a r r1 r2 : List Bool} {D k m : Nat} (hk : a.length = m + (k + 1)) (hl : r.length = a.length) (hr : nv r = nv a / 2 ^ (a.length - k) % D) (hr1 : r1 = vz r.length ((nv r : Int) * 2 ^ (1 : Int).toNat))
    (hr2 : r2 = bl r1.length (fun j => if j = 0 then bt a m else bt r1 j)) : r2.length = a.length ∧ nv r2 = 2 * (nv a / 2 ^ (a.length - k) % D) + (bt a m).toNat := by
  have hl1 : r1.length = a.length := by rw [hr1, vz_length, hl]
  have hl2 : r2.length = a.length := by rw [hr2, bl_length, hl1]
  refine ⟨hl2, ?_⟩
  have e : r2 = vz a.length (((2 * nv r + (bt a m).toNat : Nat) : Int)) := by
    rw [hr2, hl1]
    refine bl_congr fun j hj => ?_
    have q := quo_bit (nv r) 0 j (bt a m)
    rw [Int.pow_zero, Int.mul_one] at q
    have e2 : ((2 * nv r + (bt a m).toNat : Nat) : Int) = 2 * (nv r : Int) + (bt a m).toNat := by simp
    rw [e2, q]
    by_cases h0 : j = 0
    · rw [if_pos h0, if_pos h0]
    · rw [if_neg h0, if_neg h0, hr1, hl]
      show bt (bl _ _) j = _
      rw [bt_bl_lt hj]
      rfl
  have hx := top_lt a k (by omega)
  have hm := Nat.mod_le (nv a / 2 ^ (a.length - k)) D
  have hp : 2 ^ (k + 1) ≤ 2 ^ a.length := Nat.pow_le_pow_right (by decide) (by omega)
  rw [Nat.pow_succ] at hp
  rw [e, nv_vz_nat (by rcases toNat_01 (bt a m) with h | h <;> omega), hr]
/-- What DivMod and SDivMod leave: quotient and remainder. -/
def MkD (q r : List Bool) (w : World) (e : Ending) (w' : World) : Prop :=
  ∃ A c B d, e = .returned (.tuple #[.slice A q.length c, .slice B r.length d, .int .i64 0]) ∧ q.length ≤ c ∧ c ≤ maxLen ∧ r.length ≤ d ∧ d ≤ maxLen ∧ Own w.heap.size w' A q ∧ Own w.heap.size w' B r ∧ Below w.heap.size w w'

theorem div_zero (A B : Option Addr) (a b : List Bool) (c d : Nat) (w : World) (ha : a.length ≤ 4096) (hb : b.length ≤ 4096) (hB : Rd w B b) (h0 : nv b = 0) :
    Calls Try.prog 32 #[.slice A a.length c, .slice B b.length d] w fun e w' => e = .returned (.tuple #[.slice none 0 0, .slice none 0 0, .int .i64 7]) ∧ w = w' := by
  have hd : Hid (∀ w', Rd w' B b → Calls Try.prog 65 #[.slice B b.length d, .bool true] w' fun e w2 => e = .returned (.bool false) ∧ w' = w2) := hide (fun w' h => by
    have := has_any B b d w' hb h
    rw [show decide (0 < nv b) = false by simp [h0]] at this
    exact this)
  clear h0
  go_enter Try.func32, Try.ntmps32
  go_wp2_with (go_at_call 65; (with_reducible refine (hd.out _ hB).mono ?_); rintro e w' ⟨rfl, rfl⟩)
  go_ret3
  exact ⟨rfl, rfl⟩

set_option maxHeartbeats 2000000 in
theorem div_any (A B : Option Addr) (a b : List Bool) (c d : Nat) (w : World) (ha : a.length ≤ 4096) (hb : b.length ≤ 4096) (hA : Rd w A a) (hB : Rd w B b) (h0 : 0 < nv b) :
    Calls Try.prog 32 #[.slice A a.length c, .slice B b.length d] w (MkD (vz a.length ((nv a / nv b : Nat) : Int)) (vz a.length ((nv a % nv b : Nat) : Int)) w) := by
  have hd : Hid (∀ w', Rd w' B b → Calls Try.prog 65 #[.slice B b.length d, .bool true] w' fun e w2 => e = .returned (.bool true) ∧ w' = w2) := hide (fun w' h => by
    have := has_any B b d w' hb h
    rw [show decide (0 < nv b) = true by simp [h0]] at this
    exact this)
  have HA := hide hA
  have HB := hide hB
  have H0 := hide h0
  clear hA hB h0
  have hmk := run_mk a.length ha
  go_enter Try.func32, Try.ntmps32
  go_upto_region 3 with (go_at_call 65; (with_reducible refine (hd.out _ HB.out).mono ?_); rintro e w' ⟨rfl, rfl⟩)
  go_cut [4, 5] (Div0 w a.length)
  case first =>
    refine region_anyT (S := fun w1 => True) (n := 7) (by kernel_rfl) trivial (fun hS inv => ?_)
    refine anyT_take (i := 0) (oi := _) (v := .slice A a.length c) rfl (by kernel_rfl) (by kernel_rfl) (by kernel_rfl) (by decide) (by decide) (by kernel_rfl) (by kernel_rfl) inv (fun _ _ _ h => h) (Or.inl ⟨by kernel_rfl, ?_⟩) hS (fun inv => ?_)
    · intro wz hSw
      go_simp
    (try simp only [Act.put, List.setIfInBounds_toArray, List.set_cons_zero, List.set_cons_succ])
    refine anyT_take (i := 1) (oi := _) (v := .int .i64 a.length) rfl (by kernel_rfl) (by kernel_rfl) (by kernel_rfl) (by decide) (by decide) (by kernel_rfl) (by kernel_rfl) inv (fun _ _ _ h => h) (Or.inl ⟨by kernel_rfl, ?_⟩) hS (fun inv => ?_)
    · intro wz hSw
      go_simp
    (try simp only [Act.put, List.setIfInBounds_toArray, List.set_cons_zero, List.set_cons_succ])
    refine anyT_take (i := 3) (oi := _) (v := .slice A a.length c) rfl (by kernel_rfl) (by kernel_rfl) (by kernel_rfl) (by decide) (by decide) (by kernel_rfl) (by kernel_rfl) inv (fun _ _ _ h => h) (Or.inl ⟨by kernel_rfl, ?_⟩) hS (fun inv => ?_)
    · intro wz hSw
      go_simp
    (try simp only [Act.put, List.setIfInBounds_toArray, List.set_cons_zero, List.set_cons_succ])
    refine anyT_take (i := 4) (oi := _) (v := .int .i64 a.length) rfl (by kernel_rfl) (by kernel_rfl) (by kernel_rfl) (by decide) (by decide) (by kernel_rfl) (by kernel_rfl) inv (fun _ _ _ h => h) (Or.inl ⟨by kernel_rfl, ?_⟩) hS (fun inv => ?_)
    · intro wz hSw
      go_simp
    (try simp only [Act.put, List.setIfInBounds_toArray, List.set_cons_zero, List.set_cons_succ])
    have hmk := run_mk a.length ha
    refine anyT_ready (rs := [2, 5]) (by kernel_rfl) (by simp) ?_
    refine ReadyT.head (o := _) rfl (by decide) (by kernel_rfl) inv (fun K hK => ?_) ?_
    · go_simp
      refine hK.out _ _ trivial (fun hS inv => ?_)
      clear hK K
      (try simp only [Act.put, List.setIfInBounds_toArray, List.set_cons_zero, List.set_cons_succ])
      refine anyT_take (i := 6) (oi := _) (v := .slice (some ⟨w.heap.size, 0, none⟩) a.length a.length) rfl (by kernel_rfl) (by kernel_rfl) (by kernel_rfl) (by decide) (by decide) (by kernel_rfl) (by kernel_rfl) inv (fun _ _ _ h => h) (Or.inl ⟨by kernel_rfl, ?_⟩) hS (fun inv => ?_)
      · intro wz hSw
        go_simp
      (try simp only [Act.put, List.setIfInBounds_toArray, List.set_cons_zero, List.set_cons_succ])
      refine anyT_ready (rs := [5]) (by kernel_rfl) (by simp) ?_
      refine ReadyT.head (o := _) rfl (by decide) (by kernel_rfl) inv (fun K hK => ?_) ReadyT.nil
      go_simp
      refine hK.out _ _ trivial (fun hS inv => ?_)
      clear hK K
      (try simp only [Act.put, List.setIfInBounds_toArray, List.set_cons_zero, List.set_cons_succ])
      refine anyT_ready (rs := [7]) (by kernel_rfl) (by simp) ?_
      refine ReadyT.tail (o := _) rfl (by decide) (fun K hK => ?_)
      go_simp
      refine hK.out _ _ ?_
      clear hK K
      (try simp only [Act.put, List.setIfInBounds_toArray, List.set_cons_zero, List.set_cons_succ])
      refine anyT_done (by kernel_rfl) ?_ _
      go_wp2_with fail
      go_meet
      exact div0_a w a.length
    · refine ReadyT.head (o := _) rfl (by decide) (by kernel_rfl) inv (fun K hK => ?_) ReadyT.nil
      go_simp
      refine hK.out _ _ trivial (fun hS inv => ?_)
      clear hK K
      (try simp only [Act.put, List.setIfInBounds_toArray, List.set_cons_zero, List.set_cons_succ])
      refine anyT_ready (rs := [2]) (by kernel_rfl) (by simp) ?_
      refine ReadyT.head (o := _) rfl (by decide) (by kernel_rfl) inv (fun K hK => ?_) ReadyT.nil
      go_simp
      refine hK.out _ _ trivial (fun hS inv => ?_)
      clear hK K
      (try simp only [Act.put, List.setIfInBounds_toArray, List.set_cons_zero, List.set_cons_succ])
      refine anyT_take (i := 6) (oi := _) (v := .slice (some ⟨w.heap.size + 1, 0, none⟩) a.length a.length) rfl (by kernel_rfl) (by kernel_rfl) (by kernel_rfl) (by decide) (by decide) (by kernel_rfl) (by kernel_rfl) inv (fun _ _ _ h => h) (Or.inl ⟨by kernel_rfl, ?_⟩) hS (fun inv => ?_)
      · intro wz hSw
        go_simp
      (try simp only [Act.put, List.setIfInBounds_toArray, List.set_cons_zero, List.set_cons_succ])
      refine anyT_ready (rs := [7]) (by kernel_rfl) (by simp) ?_
      refine ReadyT.tail (o := _) rfl (by decide) (fun K hK => ?_)
      go_simp
      refine hK.out _ _ ?_
      clear hK K
      (try simp only [Act.put, List.setIfInBounds_toArray, List.set_cons_zero, List.set_cons_succ])
      refine anyT_done (by kernel_rfl) ?_ _
      go_wp2_with fail
      go_meet
      exact div0_b w a.length
  case rest =>
    obtain ⟨g, h, rfl, rfl, hg, hh, hr1, hr2, hb1⟩ := hcut
    have HR1 := hide hr1
    have HR2 := hide hr2
    clear hr1 hr2 hmk
    go_wp2
    go_loopw [5, 20] (fun y i wr => ∃ (k : Nat) (r : List Bool) (H : Option Addr) (ch : Nat), k ≤ a.length ∧ y = .slice H r.length ch ∧ Hid (r.length ≤ ch ∧ ch ≤ maxLen) ∧ i = .int .i64 k ∧ DivR w a (nv b) g k r H wr) (fun _ i _ => a.length - (intOf i).toNat)
    case atStart =>
      have hl : (bl a.length fun _ => false).length = a.length := bl_length _ _
      refine ⟨0, bl a.length fun _ => false, some ⟨h, 0, none⟩, a.length, Nat.zero_le _, by rw [hl], hide ⟨by rw [hl]; exact Nat.le_refl _, max_4096 ha⟩, rfl, ?_⟩
      have e0 : nv a / 2 ^ (a.length - 0) = 0 := by
        rw [Nat.sub_zero]; exact Nat.div_eq_of_lt (nv_lt a)
      refine ⟨hl, ?_, ?_, ?_, hb1⟩
      · rw [e0, nv_bl, nf_none fun _ _ => rfl]; simp
      · rw [e0]; simp; exact HR1.out.congr fun i _ => (zb_zero i).symm
      · exact Own.of_row (by rw [hl]; exact HR2.out.congr fun i hi => (bt_bl_lt (f := fun _ => false) hi).symm) hh
    case round =>
      obtain ⟨k, r, H, ch, hk, rfl, hch, rfl, hR⟩ := hrel
      have hRH := hide hR
      clear hR hb1
      have hlr := hide hRH.out.lr
      have hr4 : r.length ≤ 4096 := by have := hlr.out; omega
      by_cases hlt : k < a.length
      · obtain ⟨m, hm⟩ : ∃ m, a.length = m + (k + 1) := ⟨a.length - (k + 1), by omega⟩
        have hma : m < a.length := by omega
        have hmx : (a.length : Int) - 1 - (k : Int) = m := by omega
        have HM := hide hm
        clear hm
        obtain ⟨ad, rfl, hlt1, hc0⟩ := HA.out.at_ hma
        have hgw : g < wr.heap.size := hRH.out.row.lt
        go_wp2_with fail
        refine (shl_any H r ch 1 wr hr4 hRH.out.own.rd).mono ?_
        rintro e w1 ⟨G, c1, rfl, f1, f2, f3, fb⟩
        obtain ⟨r1, hr1⟩ : ∃ r1, r1 = vz r.length ((nv r : Int) * 2 ^ (1 : Int).toNat) := ⟨_, rfl⟩
        rw [← hr1] at f1 f3 ⊢
        have hl1 : r1.length = a.length := by rw [hr1, vz_length, hlr.out]
        have hp1 : 0 < r1.length := by omega
        have hp4 : r1.length ≤ 4096 := by omega
        obtain ⟨g1, rfl, hg1, hrow1⟩ := f3 hp1
        have hc : w1.cell? (ad.add m) = some (.bool (bt a m)) := ((hRH.out.bel.trans (fb.mono hRH.out.bel.size)).cell (p := ad.add m) (by rw [block_of_add]; exact hlt1)).trans hc0
        have hcr := hrow1.cell hp1
        have hfr := hrow1.free 0
        obtain ⟨r2, hr2⟩ : ∃ r2, r2 = bl r1.length (fun j => if j = 0 then bt a m else bt r1 j) := ⟨_, rfl⟩
        obtain ⟨hl2, hv2⟩ := rem_next HM.out hlr.out hRH.out.rem hr1 hr2
        have hl21 : r2.length = r1.length := by rw [hl2, hl1]
        have hrow2 : RowF (w1.setCell ⟨g1, 0, none⟩ (.bool (bt a m))) g1 r2.length (bt r2) := by rw [hl21]; exact (hrow1.set_ 0 (bt a m)).congr fun i hi => by rw [hr2, bt_bl_lt hi]
        have hb2 : Below w.heap.size w (w1.setCell ⟨g1, 0, none⟩ (.bool (bt a m))) := (hRH.out.bel.trans (fb.mono hRH.out.bel.size)).setCell (by have := hRH.out.bel.size; simp; omega) _
        have hRd2 := hide (HB.out.below hb2)
        have hcmp := cmp_any (some ⟨g1, 0, none⟩) B r2 b c1 d (w1.setCell ⟨g1, 0, none⟩ (.bool (bt a m))) (by omega) hb (Own.rd (B := 0) fun _ => ⟨g1, rfl, Nat.zero_le _, hrow2⟩) hRd2.out
        have hsub := sub_any (some ⟨g1, 0, none⟩) B r2 b c1 d (w1.setCell ⟨g1, 0, none⟩ (.bool (bt a m))) (by omega) hb (Own.rd (B := 0) fun _ => ⟨g1, rfl, Nat.zero_le _, hrow2⟩) hRd2.out
        rw [hl21] at hcmp hsub
        have HS := hide hsub
        have HROW2 := hide hrow2
        have HB2 := hide hb2
        have HL2 := hide hl2
        have HL21 := hide hl21
        have HL1 := hide hl1
        have HV2 := hide hv2
        have F1 := hide f1
        have F2 := hide f2
        have FB := hide fb
        have HT := hide (top_step a k hlt)
        have hgr : RowF (w1.setCell ⟨g1, 0, none⟩ (.bool (bt a m))) g a.length (zb (((nv a / 2 ^ (a.length - k) / nv b : Nat) : Int) * 2 ^ (a.length - k))) := (hRH.out.row.kept fb).far (by simp; omega) _
        have HGR := hide hgr
        have hmk : a.length - 1 - k = m := by have := HM.out; omega
        have hmk1 : a.length - (k + 1) = m := by have := HM.out; omega
        have hmk2 : a.length - k = m + 1 := by have := HM.out; omega
        have HMK := hide hmk
        have HMK1 := hide hmk1
        have HMK2 := hide hmk2
        have HR1 := hide hr1
        have HR2 := hide hr2
        clear hr1 hr2 hl1 hl2 hl21 hv2 hsub hrow2 hb2 f1 f2 f3 fb hrow1 hgr hmk hmk1 hmk2 hc0 hRd2
        by_cases hge : nv b ≤ nv r2
        · obtain ⟨z, hz⟩ : ∃ z, z = cmp (nv r2) (nv b) := ⟨_, rfl⟩
          rw [← hz] at hcmp
          have hz0 : 0 ≤ z := by rw [hz]; exact cmp_nn.2 (by omega)
          have HC := hide hcmp
          have HGE := hide hge
          clear hz hcmp hge
          go_wp2_with fail
          refine (HC.out).mono ?_
          rintro e w' ⟨rfl, rfl⟩
          go_wp2_with fail
          refine (HS.out).mono ?_
          rintro e w3 ⟨G3, c3, rfl, t1, t2, t3, tb⟩
          have T1 := hide t1
          have T2 := hide t2
          have T3 := hide t3
          have TB := hide tb
          have hrow3 := HGR.out.kept tb
          have hcq := hrow3.cell hma
          have hfq := hrow3.free m
          have HROW3 := hide hrow3
          clear t1 t2 t3 tb hrow3 HC
          go_wp2
          go_roundw
          case rel =>
            have hD := H0.out
            have dy := div_yes (X := nv a / 2 ^ (a.length - k)) (b := (bt a m).toNat) hD (by rcases toNat_01 (bt a m) with h | h <;> omega) (by rw [← HV2.out]; exact HGE.out)
            have hT := HT.out
            rw [HMK.out] at hT
            have hnv : nv (vz r1.length ((nv r2 : Int) - nv b)) = nv r2 - nv b := by
              have e : ((nv r2 : Int) - nv b) = ((nv r2 - nv b : Nat) : Int) := by have := HGE.out; omega
              rw [e]
              refine nv_vz_nat ?_
              have := nv_lt r2
              rw [HL21.out] at this
              omega
            have hml : Below w3.heap.size w3 w3 := Below.refl _ _
            have hsz := TB.out.size
            have hg3 : g < w3.heap.size := HROW3.out.lt
            have hgB : w.heap.size ≤ g := hg
            refine ⟨k + 1, vz r1.length ((nv r2 : Int) - nv b), G3, c3, by omega, rfl, hide ⟨T1.out, T2.out⟩, by go_num, ?_⟩
            refine ⟨by rw [vz_length]; exact HL1.out, ?_, ?_, ?_, ?_⟩
            · rw [hnv, HV2.out, hT, dy.1]
            · refine (HROW3.out.set_ m true).congr fun j hj => ?_
              rw [hT, dy.2, HMK1.out, HMK2.out]
              have q := quo_bit ((nv a / 2 ^ (m + 1) / nv b : Nat) : Int) m j true
              have e : ((2 * (nv a / 2 ^ (m + 1) / nv b) + 1 : Nat) : Int) = 2 * ((nv a / 2 ^ (m + 1) / nv b : Nat) : Int) + (true.toNat : Nat) := by simp
              rw [e, q]
            · intro hn
              obtain ⟨g3, e, hB3, hr3⟩ := T3.out hn
              have hB3' : w1.heap.size ≤ g3 := by simpa using hB3
              have := FB.out.size
              have := hRH.out.bel.size
              exact ⟨g3, e, by omega, hr3.far (by simp; omega) _⟩
            · exact (HB2.out.trans (TB.out.mono HB2.out.size)).setCell (by simpa using hgB) _
          case measure => simp [intOf]; omega
        · obtain ⟨z, hz⟩ : ∃ z, z = cmp (nv r2) (nv b) := ⟨_, rfl⟩
          rw [← hz] at hcmp
          have hz0 : z < 0 := by rw [hz]; exact cmp_lt.2 (by omega)
          have HC := hide hcmp
          have HGE := hide hge
          clear hz hcmp hge
          go_wp2_with fail
          refine (HC.out).mono ?_
          rintro e w' ⟨rfl, rfl⟩
          go_wp2
          go_roundw
          case rel =>
            have hD := H0.out
            have dn := div_no (X := nv a / 2 ^ (a.length - k)) (b := (bt a m).toNat) hD (by rw [← HV2.out]; have := HGE.out; omega)
            have hT := HT.out
            rw [HMK.out] at hT
            have := FB.out.size
            have := hRH.out.bel.size
            refine ⟨k + 1, r2, some ⟨g1, 0, none⟩, c1, by omega, by rw [HL21.out], hide ⟨by rw [HL21.out]; exact F1.out, F2.out⟩, by go_num, ?_⟩
            refine ⟨HL2.out, ?_, ?_, ?_, HB2.out⟩
            · rw [HV2.out, hT, dn.1]
            · rw [hT, dn.2, HMK1.out]
              have h := HGR.out
              rw [HMK2.out] at h ⊢
              refine h.congr fun j hj => ?_
              rw [Int.pow_succ, ← Int.mul_assoc]
              congr 1
              simp
              grind
            · exact fun _ => ⟨g1, rfl, by omega, HROW2.out⟩
          case measure => simp [intOf]; omega
      · have e : k = a.length := by omega
        subst e
        have hre : r = vz a.length ((nv a % nv b : Nat) : Int) := by
          have h1 := hRH.out.rem
          rw [Nat.sub_self, Nat.pow_zero, Nat.div_one] at h1
          exact eq_vz hlr.out (by rw [h1])
        have hrow := hRH.out.row
        rw [Nat.sub_self, Nat.pow_zero, Nat.div_one, Int.pow_zero, Int.mul_one] at hrow
        have HRow := hide hrow
        have HRe := hide hre
        clear hrow hre
        go_wp2
        go_ret3
        have hl := vz_length a.length ((nv a / nv b : Nat) : Int)
        refine ⟨some ⟨g, 0, none⟩, a.length, H, ch, ?_, ?_, max_4096 ha, ?_, hch.out.2, ?_, ?_, hRH.out.bel⟩
        · rw [hl, ← HRe.out]; rfl
        · rw [hl]; exact Nat.le_refl _
        · rw [← HRe.out]; exact hch.out.1
        · exact fun _ => ⟨g, rfl, hg, by rw [hl]; exact HRow.out.congr fun i hi => (bt_bl_lt hi).symm⟩
        · rw [← HRe.out]; exact hRH.out.own
end Go.Proofs.Ytkjiaflmaniplaa
