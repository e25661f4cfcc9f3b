/-
  Texts of MV joined (VecRB, VecY, VecMS, VecMM, VecS, BvP2, BvQ, BvBB, VecMU, VecV, VecZ, VecAA, VecBB, VecSW, VecSX, VecTW, VecLI, VecLR, VecSP, VecLT, VecFT, VecSQ, VecBI, VecLV, VecBL, VecPM, VecCC, VecLX, VecRU, VecRV, VecRN).
-/
import Derived.Laws.OwnMore
import Derived.LoopN
import Derived.Laws.EntriesVeiled
import Derived.Test.YtbcpeagannjgpaaGreatDoorMV3
set_option linter.unusedVariables false
set_option linter.unusedSimpArgs false
set_option linter.unusedSectionVars false
namespace Go.Proofs.YtbcpeagannjgpaaGreatDoor
section
open Go.RowKit
set_option maxRecDepth 100000
set_option linter.unusedSimpArgs false
set_option linter.unusedVariables false
set_option maxHeartbeats 1000000 in
theorem rknown_any' (A : Option Addr) (a : List Int) (c : Nat) (s : Bool) (w : World) (ha : a.length ≤ 4096) (hca : Hid (a.length ≤ c ∧ c ≤ maxLen)) (hA : RQ w A a) (ya : By a) :
    Calls Tryz.prog 148 #[.agg #[.slice A a.length c, .bool s]] w (Mk (.bool (kn (cnt ⟨a, s⟩).b)) w) := by
  have HA := hide hA
  have LA := hide ha
  have YA := hide ya
  clear hA ha ya
  go_enter Tryz.func148, Tryz.ntmps148
  go_wp2_with fail
  refine (rnorm_any' A a c s _ LA.out hca (HA.out.below belo) YA.out).mono ?_
  rintro e w1 ⟨l1, s1, A1, c1, E1, rfl, C1, O1, hb⟩
  replace O1 := hide (O1.out.base (show w.heap.size + 1 ≤ _ by first | omega | (simp; omega) | (simp; done)))
  have hB1 : Below w.heap.size w w1 := Below.trans belo (hb.mono as4)
  obtain ⟨kc1, kf1⟩ := bcell hb
  have hz1 := hb.size
  (try simp at hz1)
  have n1_0 : w.heap.size < w1.heap.size := by omega
  clear hb
  have G1 : Gd l1 := by have h := cnt_gd (v := ⟨a, s⟩) YA.out; rw [← E1.out] at h; exact h
  have HG1 := hide G1
  have u1 := G1.le
  have p1 := G1.pos
  clear G1
  have mm0_0 : w1.cell? ⟨w.heap.size, 0, none⟩ = some (.slice A a.length c) := (kc1 _ _ as0).trans as1
  have vv0_0 : w1.frozen? ⟨w.heap.size, 0, none⟩ = false := (kf1 _ _ as0).trans as1
  have mm0_1 : w1.cell? ⟨w.heap.size, 1, none⟩ = some (.bool s) := (kc1 _ _ as0).trans as1
  have vv0_1 : w1.frozen? ⟨w.heap.size, 1, none⟩ = false := (kf1 _ _ as0).trans as1
  clear kc1 kf1
  go_wp2_with fail
  obtain ⟨V1, hV⟩ : ∃ x, x = ((w1.setCell ⟨w.heap.size, 0, none⟩ (.slice A1 l1.length c1)).setCell ⟨w.heap.size, 1, none⟩ (.bool s1)) := ⟨_, rfl⟩
  rw [← hV]
  have hBV1 : Below w.heap.size w V1 := by rw [hV]; exact belo
  have qV1_0 : V1.cell? ⟨w.heap.size, 0, none⟩ = some (.slice A1 l1.length c1) := by rw [hV]; (repeat (first | with_reducible refine cset_eq' ?_ | with_reducible refine cset_ne (by first | (simp; done) | (simp; omega)) ?_ | with_reducible refine cset_ex ?_ | exact ⟨_, by assumption⟩ | assumption))
  have jV1_0 : V1.frozen? ⟨w.heap.size, 0, none⟩ = false := by rw [hV]; (repeat (first | with_reducible refine fset ?_ | assumption))
  have qV1_1 : V1.cell? ⟨w.heap.size, 1, none⟩ = some (.bool s1) := by rw [hV]; (repeat (first | with_reducible refine cset_eq' ?_ | with_reducible refine cset_ne (by first | (simp; done) | (simp; omega)) ?_ | with_reducible refine cset_ex ?_ | exact ⟨_, by assumption⟩ | assumption))
  have jV1_1 : V1.frozen? ⟨w.heap.size, 1, none⟩ = false := by rw [hV]; (repeat (first | with_reducible refine fset ?_ | assumption))
  have nV1_0 : w.heap.size < V1.heap.size := by rw [hV]; simp; omega
  replace O1 := hide (show OwQ (w.heap.size + 1) V1 A1 l1 by rw [hV]; (repeat (first | with_reducible exact O1.out | with_reducible refine OwQ.far ?_ as3 _ | with_reducible refine OwQ.allc ?_ _ | with_reducible refine OwQ.drew ?_ | with_reducible refine OwQ.drewN ?_ _)))
  clear hV
  have HK := hide (kn_iff l1)
  obtain ⟨R, hR⟩ : ∃ R, R = kn (cnt ⟨a, s⟩).b := ⟨_, rfl⟩
  have HR := hide (show kn (cnt ⟨a, s⟩).b = kn l1 by rw [← E1.out])
  clear hR R
  go_loop [3] (fun i => ∃ k : Nat, k ≤ l1.length ∧ i = .int .i64 k ∧ Hid (∀ j, j < k → mKnown (qt l1 j) = true)) (fun i => l1.length - (intOf i).toNat)
  case atStart => exact ⟨0, Nat.zero_le _, rfl, hide fun j hj => by omega⟩
  case round =>
    obtain ⟨k, hk, rfl, hno⟩ := hrel
    by_cases hlt : k < l1.length
    · obtain ⟨ad, rfl, hlt1, hc⟩ := O1.out.rd.at_ hlt
      have hcall := hide (rknown_q (qt l1 k) V1 ((HG1.out.bd k).1))
      cases hx : mKnown (qt l1 k)
      · rw [hx] at hcall
        have hx' := hide hx
        clear hx
        go_wp2_with (go_at_call 146; (with_reducible refine (hcall.out).mono ?_); rintro e w' ⟨rfl, rfl⟩)
        go_ret
        refine ⟨ret_bool ?_, belo⟩
        rw [HR.out]
        cases hr : kn l1
        · rfl
        · have := HK.out.1 hr k hlt
          rw [hx'.out] at this
          cases this
      · rw [hx] at hcall
        have hx' := hide hx
        clear hx
        go_wp2_with (go_at_call 146; (with_reducible refine (hcall.out).mono ?_); rintro e w' ⟨rfl, rfl⟩)
        go_round
        case rel => exact ⟨k + 1, by omega, by go_num, hide fun j hj => by
          by_cases e : j = k
          · subst e; exact hx'.out
          · exact hno.out j (by omega)⟩
        case measure => simp [intOf]; omega
    · go_wp2
      go_ret
      refine ⟨ret_bool ?_, belo⟩
      rw [HR.out]
      exact (HK.out.2 fun i hi => hno.out i (by omega)).symm
structure Fil (W : World) (O : Nat) (s : Bool) (l : List Int) (v : Value) (wr : World) : Prop where
  own : wr.ownsRow (O + 1) 65 1 v l.length (l.map (Value.int .u8))
  bel : Below O W wr
  siz : O + 1 ≤ wr.heap.size
  c0 : wr.cell? ⟨O, 0, none⟩ = some v
  c1 : wr.cell? ⟨O, 1, none⟩ = some (.bool s)
  f0 : wr.frozen? ⟨O, 0, none⟩ = false
  f1 : wr.frozen? ⟨O, 1, none⟩ = false
theorem Fil.start {W : World} {O : Nat} {s : Bool} (hO : O + 1 ≤ W.heap.size) (c0 : W.cell? ⟨O, 0, none⟩ = some (.slice none 0 0)) (c1 : W.cell? ⟨O, 1, none⟩ = some (.bool s)) (f0 : W.frozen? ⟨O, 0, none⟩ = false) (f1 : W.frozen? ⟨O, 1, none⟩ = false) : Fil W O s [] (.slice none 0 0) W :=
  ⟨owq_nil W _, Below.refl _ _, hO, c0, c1, f0, f1⟩
theorem Fil.keeps {W wr wa w1 : World} {O : Nat} {s : Bool} {l : List Int} {v : Value} (h : Fil W O s l v wr) (ha : Below wr.heap.size wr wa) (hb : Below (O + 1) wa w1) :
    (w1.cell? ⟨O, 0, none⟩ = some v ∧ w1.frozen? ⟨O, 0, none⟩ = false) ∧ (w1.cell? ⟨O, 1, none⟩ = some (.bool s) ∧ w1.frozen? ⟨O, 1, none⟩ = false) ∧ Below O W w1 ∧ O + 1 ≤ w1.heap.size := by
  have h1 := h.siz
  have h2 := ha.size
  have h3 := hb.size
  obtain ⟨a1, a2⟩ := bcell ha
  refine ⟨⟨?_, ?_⟩, ⟨?_, ?_⟩, ?_, by omega⟩
  · rw [hb.cell (p := ⟨O, 0, none⟩) (by simp), a1 _ _ (by omega)]; exact h.c0
  · rw [hb.frozen (p := ⟨O, 0, none⟩) (by simp), a2 _ _ (by omega)]; exact h.f0
  · rw [hb.cell (p := ⟨O, 1, none⟩) (by simp), a1 _ _ (by omega)]; exact h.c1
  · rw [hb.frozen (p := ⟨O, 1, none⟩) (by simp), a2 _ _ (by omega)]; exact h.f1
  · exact h.bel.trans ((ha.mono (by omega)).trans (hb.mono (by omega)))
theorem Fil.add {W wr wa w1 : World} {O n k : Nat} {s : Bool} {l m : List Int} {v v' : Value} (h : Fil W O s l v wr) (ha : Below wr.heap.size wr wa) (hb : Below (O + 1) wa w1)
    (hown : w1.ownsRow (O + 1) 65 1 v' (n + k) ((l ++ m).map (Value.int .u8))) : Fil W O s (l ++ m) v' (w1.setCell ⟨O, 0, none⟩ v') := by
  obtain ⟨⟨k0, k1⟩, ⟨k2, k3⟩, k4, k5⟩ := h.keeps ha hb
  have hl : n + k = (l ++ m).length := by have := hown.1; simpa using this.symm
  rw [hl] at hown
  exact ⟨ownsRow_setCell_below hown (by simp) _, k4.setCell (Nat.le_refl _) _, by simpa using k5, cset_eq k0, cset_ne (by simp) k2, fset k1, fset k3⟩
theorem Fil.done {W wr : World} {O : Nat} {s : Bool} {l : List Int} {v : Value} (h : Fil W O s l v wr) : ∃ A c, v = .slice A l.length c ∧ Hid (l.length ≤ c ∧ c ≤ maxLen) ∧ Hid (OwQ (O + 1) wr A l) := by
  obtain ⟨A, c, e, h1, h2, h3⟩ := owq_open h.own
  exact ⟨A, c, e, hide ⟨h1, h2⟩, hide h3⟩
set_option maxHeartbeats 1000000 in
theorem rfill_any (z : Int) (n : Nat) (s : Bool) (w : World) (hn : n ≤ 4096) :
    Calls Tryz.prog 77 #[.int .u8 z, .int .i64 n, .bool s] w (RetC (· = ⟨ql n fun _ => z, s⟩) w) := by
  go_enter Tryz.func77, Tryz.ntmps77
  go_wp2_with fail
  generalize hW : World.alloc (World.alloc w _) _ = W
  have hB : Below w.heap.size w W := by rw [← hW]; exact belo
  have hF : Fil W (w.heap.size + 1) s [] (.slice none 0 0) W := by
    rw [← hW]
    exact Fil.start (by simp) (by simp [go_sem]) (by simp [go_sem]) (by simp [go_sem]) (by simp [go_sem])
  have r0 : W.cell? ⟨w.heap.size, 0, none⟩ = some (.slice none 0 0) := by rw [← hW]; simp [go_sem]
  have r1 : W.cell? ⟨w.heap.size, 1, none⟩ = some (.bool false) := by rw [← hW]; simp [go_sem]
  have g0 : W.frozen? ⟨w.heap.size, 0, none⟩ = false := by rw [← hW]; simp [go_sem]
  have g1 : W.frozen? ⟨w.heap.size, 1, none⟩ = false := by rw [← hW]; simp [go_sem]
  clear hW
  go_loopw [8] (fun i wr => ∃ (k : Nat) (v : Value), k ≤ n ∧ i = .int .i64 k ∧ Fil W (w.heap.size + 1) s (ql k fun _ => z) v wr) (fun i _ => n - (intOf i).toNat)
  case atStart => exact ⟨0, .slice none 0 0, Nat.zero_le _, rfl, hF⟩
  case round =>
    obtain ⟨k, v, hk, rfl, hR⟩ := hrel
    clear hF
    have c0 := hR.c0
    have c1 := hR.c1
    have hRH := hide hR
    clear hR
    by_cases hlt : k < n
    · go_wp2_with (at_builtin; refine wpList_append_q _ rfl _ _ rfl (w.heap.size + 1 + 1) v _ (ql k fun _ => z) rfl (hRH.out.own.alloc _) (some ⟨wr.heap.size, 0, none⟩) 1 1 [z] rfl rfl (one_rq _ _) (by rw [ql_length]; simp; omega) (by have := hRH.out.siz; simp; omega) ?_; intro v' w1 hown' hb'; obtain ⟨A', c', e', -, -, -⟩ := owq_open hown'; subst e'; obtain ⟨⟨k0, k1⟩, -⟩ := hRH.out.keeps ((Below.refl _ _).alloc (Nat.le_refl _) _) hb')
      go_roundw
      case rel => exact ⟨k + 1, _, by omega, by go_num, by rw [ql_snoc]; have h := hRH.out.add ((Below.refl _ _).alloc (Nat.le_refl _) _) hb' hown'; rw [List.length_append] at h; exact h⟩
      case measure => simp [intOf]; omega
    · have e : k = n := by omega
      subst e
      obtain ⟨l, hl⟩ : ∃ l, l = ql k fun _ => z := ⟨_, rfl⟩
      rw [← hl] at hRH
      obtain ⟨A, c, rfl, C1, O1⟩ := hRH.out.done
      obtain ⟨q1, q2⟩ := bcellW hRH.out.bel
      have d0 : wr.cell? ⟨w.heap.size, 0, none⟩ = some (.slice none 0 0) := (q1 _ _ (by omega)).trans r0
      have d1 : wr.cell? ⟨w.heap.size, 1, none⟩ = some (.bool false) := (q1 _ _ (by omega)).trans r1
      have d2 : wr.frozen? ⟨w.heap.size, 0, none⟩ = false := (q2 _ _ (by omega)).trans g0
      have d3 : wr.frozen? ⟨w.heap.size, 1, none⟩ = false := (q2 _ _ (by omega)).trans g1
      have hB2 : Below w.heap.size w wr := hB.trans (hRH.out.bel.mono (by omega))
      have HL := hide hl
      clear hl q1 q2 r0 r1 g0 g1
      go_wp2
      refine bodyPost_ret (v := .agg #[.slice A l.length c, .bool s]) (by simp [results, Tryz.results77, go_sem, *]) rfl ?_
      exact ⟨l, s, A, c, hide (by rw [HL.out]), rfl, C1, hide (OwQ.base (B := w.heap.size + 1 + 1) (owT O1) (by omega)), belo⟩
set_option maxHeartbeats 1000000 in
theorem rbools_any (A : Option Addr) (a : List Int) (c : Nat) (s : Bool) (w : World) (ha : a.length ≤ 4096) (hA : RQ w A a) :
    Calls Tryz.prog 149 #[.agg #[.slice A a.length c, .bool s]] w (RetP (· = nb a) w) := by
  have HA := hide hA
  clear hA
  go_enter Tryz.func149, Tryz.ntmps149
  go_wp2_with fail
  generalize hW : World.alloc w _ = W
  have hB : Below w.heap.size w W := by rw [← hW]; exact belo
  have hz : W.heap.size = w.heap.size + 1 := by rw [← hW]; simp
  have q0 : W.cell? ⟨w.heap.size, 0, none⟩ = some (.slice A a.length c) := by rw [← hW]; simp [go_sem]
  clear hW
  go_loopw [3, 4] (fun v i wr => ∃ k : Nat, k ≤ a.length ∧ i = .int .i64 k ∧ OwnL W v (bl k fun i => decide (qt a i = 1)) wr) (fun _ i _ => a.length - (intOf i).toNat)
  case atStart => exact ⟨0, Nat.zero_le _, rfl, OwnL.nil W⟩
  case round =>
    obtain ⟨k, hk, rfl, hR⟩ := hrel
    have d0 : wr.cell? ⟨w.heap.size, 0, none⟩ = some (.slice A a.length c) := (hR.bel.cell (p := ⟨w.heap.size, 0, none⟩) (by simp; omega)).trans q0
    have hB2 : Below w.heap.size w wr := hB.trans (hR.bel.mono (by omega))
    have hRH := hide hR
    clear hR
    by_cases hlt : k < a.length
    · obtain ⟨ad, rfl, hlt1, hc⟩ := (HA.out.below hB2).at_ hlt
      go_wp2_with (at_builtin; refine wpList_append_bv _ rfl _ _ rfl W.heap.size _ _ (bl k fun i => decide (qt a i = 1)) rfl (hRH.out.own.alloc _) (some ⟨wr.heap.size, 0, none⟩) 1 1 [decide (qt a k = 1)] rfl rfl (one_rd _ _) (by rw [bl_length]; simp; omega) (by have := hRH.out.bel.size; simp; omega) ?_; intro v' w1 hown' hb')
      go_roundw
      case rel => exact ⟨k + 1, by omega, by go_num, by rw [bl_snoc]; exact OwnL.add (hRH.out.bel.alloc hRH.out.bel.size _) hown' hb'⟩
      case measure => simp [intOf]; omega
    · have e : k = a.length := by omega
      subst e
      go_wp2
      go_ret
      obtain ⟨A', c', rfl, h1, h2, h3⟩ := own_open hRH.out.own
      exact ⟨_, A', c', hide rfl, rfl, hide ⟨h1, h2⟩, hide (h3.base (by omega)), hB2⟩
end
section
open Go.RowKit
set_option maxRecDepth 100000
set_option linter.unusedSimpArgs false
set_option linter.unusedVariables false
def chB (x : Int) : Int := if x = 49 then 1 else if x = 120 then 2 else if x = 122 then 3 else 0
def byt (s : ByteArray) (i : Nat) : Int := if h : i < s.size then (s[i]'h).toNat else 0
def ofB (s : ByteArray) : List Int := ql s.size fun i => chB (byt s (s.size - 1 - i))
set_option maxHeartbeats 1000000 in
theorem vof_any (s : ByteArray) (w : World) (hn : s.size ≤ 4096) :
    Calls Tryz.prog 61 #[.string s] w (RetC (· = ⟨ofB s, false⟩) w) := by
  obtain ⟨n, hs⟩ : ∃ n, n = s.size := ⟨_, rfl⟩
  go_enter Tryz.func61, Tryz.ntmps61
  go_wp2_with fail
  generalize hW : World.alloc (World.alloc w _) _ = W
  have hB : Below w.heap.size w W := by rw [← hW]; exact belo
  have hF : Fil W (w.heap.size + 1) false [] (.slice none 0 0) W := by
    rw [← hW]
    exact Fil.start (by simp) (by simp [go_sem]) (by simp [go_sem]) (by simp [go_sem]) (by simp [go_sem])
  have r0 : W.cell? ⟨w.heap.size, 0, none⟩ = some (.slice none 0 0) := by rw [← hW]; simp [go_sem]
  have r1 : W.cell? ⟨w.heap.size, 1, none⟩ = some (.bool false) := by rw [← hW]; simp [go_sem]
  have g0 : W.frozen? ⟨w.heap.size, 0, none⟩ = false := by rw [← hW]; simp [go_sem]
  have g1 : W.frozen? ⟨w.heap.size, 1, none⟩ = false := by rw [← hW]; simp [go_sem]
  clear hW
  have hlast : ((s.size : Int) - 1) ≤ 4096 := by omega
  have HS := hide hn
  obtain ⟨J0, hJ0⟩ : ∃ J0 : Int, J0 = (s.size : Int) - 1 := ⟨_, rfl⟩
  rw [← hJ0] at hlast ⊢
  have HJ0 := hide hJ0
  have hJm : -1 ≤ J0 := by omega
  clear hJ0 hn hs n
  go_loopw [4] (fun i wr => ∃ (k : Nat) (v : Value) (J : Int) (L : List Int), Hid (k ≤ s.size) ∧ Hid (J = (s.size : Int) - 1 - k) ∧ i = .int .i64 J ∧ Hid (L = ql k fun i => chB (byt s (s.size - 1 - i))) ∧ Fil W (w.heap.size + 1) false L v wr) (fun i _ => (intOf i + 1).toNat)
  case atStart => exact ⟨0, .slice none 0 0, J0, [], hide (Nat.zero_le _), hide (by have := HJ0.out; omega), rfl, hide rfl, hF⟩
  case round =>
    obtain ⟨k, v, J, L, HK, HJ, rfl, HL, hR⟩ := hrel
    clear hF hJm hlast HJ0
    have hJ1 : -1 ≤ J := by have := HK.out; have := HJ.out; omega
    have hJ2 : J ≤ 4096 := by have := HS.out; have := HJ.out; omega
    have HLL : Hid (L.length ≤ 4096) := hide (by rw [HL.out, ql_length]; have := HS.out; have := HK.out; omega)
    have c0 := hR.c0
    have c1 := hR.c1
    have hRH := hide hR
    clear hR
    by_cases hlt : 0 ≤ J
    · have hlen : Hid (k < s.size) := hide (by have := HJ.out; omega)
      obtain ⟨x, hx⟩ : ∃ x, x = byt s (s.size - 1 - k) := ⟨_, rfl⟩
      have HX := hide hx
      have ix : ∀ w, (Instr.index 9 (.string s) (.int .i64 J)).run Tryz.prog w = .ok (.int .u8 x) w := fun w => by
        have h1 := HJ.out
        have h2 := hlen.out
        refine Eq.trans (run_index_string w 9 s .i64 J kr) ?_
        rw [dif_pos (by omega), hx]
        unfold byt
        rw [dif_pos (by omega)]
        have e : J.toNat = s.size - 1 - k := by omega
        simp only [e]
      have hstep : ∀ z, z = chB x → L ++ [z] = ql (k + 1) fun i => chB (byt s (s.size - 1 - i)) := fun z hz => by
        rw [ql_snoc, HL.out, hz, hx]
      have HST := hide hstep
      clear hstep hx
      by_cases x49 : x = 49
      · subst x49
        go_wp2_with (at_builtin; refine wpList_append_q _ rfl _ _ rfl (w.heap.size + 1 + 1) v _ L rfl (hRH.out.own.alloc _) (some ⟨wr.heap.size, 0, none⟩) 1 1 [1] rfl rfl (one_rq _ _) (by have := HLL.out; simp; omega) (by have := hRH.out.siz; simp; omega) ?_; intro v' w1 hown' hb'; obtain ⟨A', c', e', -, -, -⟩ := owq_open hown'; subst e'; obtain ⟨⟨k0, k1⟩, -⟩ := hRH.out.keeps ((Below.refl _ _).alloc (Nat.le_refl _) _) hb')
        go_roundw
        case rel =>
          have h := hRH.out.add ((Below.refl _ _).alloc (Nat.le_refl _) _) hb' hown'
          rw [List.length_append] at h
          exact ⟨k + 1, _, J - 1, L ++ [1], hide (by have := hlen.out; omega), hide (by have := HJ.out; omega), by first | rfl | go_num, hide (HST.out _ rfl), h⟩
        case measure => simp [intOf]; omega
      · have y49 : (x == 49) = false := by simpa using x49
        by_cases x120 : x = 120
        · subst x120
          go_wp2_with (at_builtin; refine wpList_append_q _ rfl _ _ rfl (w.heap.size + 1 + 1) v _ L rfl (hRH.out.own.alloc _) (some ⟨wr.heap.size, 0, none⟩) 1 1 [2] rfl rfl (one_rq _ _) (by have := HLL.out; simp; omega) (by have := hRH.out.siz; simp; omega) ?_; intro v' w1 hown' hb'; obtain ⟨A', c', e', -, -, -⟩ := owq_open hown'; subst e'; obtain ⟨⟨k0, k1⟩, -⟩ := hRH.out.keeps ((Below.refl _ _).alloc (Nat.le_refl _) _) hb')
          go_roundw
          case rel =>
            have h := hRH.out.add ((Below.refl _ _).alloc (Nat.le_refl _) _) hb' hown'
            rw [List.length_append] at h
            exact ⟨k + 1, _, J - 1, L ++ [2], hide (by have := hlen.out; omega), hide (by have := HJ.out; omega), by first | rfl | go_num, hide (HST.out _ rfl), h⟩
          case measure => simp [intOf]; omega
        · have y120 : (x == 120) = false := by simpa using x120
          by_cases x122 : x = 122
          · subst x122
            go_wp2_with (at_builtin; refine wpList_append_q _ rfl _ _ rfl (w.heap.size + 1 + 1) v _ L rfl (hRH.out.own.alloc _) (some ⟨wr.heap.size, 0, none⟩) 1 1 [3] rfl rfl (one_rq _ _) (by have := HLL.out; simp; omega) (by have := hRH.out.siz; simp; omega) ?_; intro v' w1 hown' hb'; obtain ⟨A', c', e', -, -, -⟩ := owq_open hown'; subst e'; obtain ⟨⟨k0, k1⟩, -⟩ := hRH.out.keeps ((Below.refl _ _).alloc (Nat.le_refl _) _) hb')
            go_roundw
            case rel =>
              have h := hRH.out.add ((Below.refl _ _).alloc (Nat.le_refl _) _) hb' hown'
              rw [List.length_append] at h
              exact ⟨k + 1, _, J - 1, L ++ [3], hide (by have := hlen.out; omega), hide (by have := HJ.out; omega), by first | rfl | go_num, hide (HST.out _ rfl), h⟩
            case measure => simp [intOf]; omega
          · have y122 : (x == 122) = false := by simpa using x122
            have HW := hide (show (0 : Int) = chB x by unfold chB; rw [if_neg x49, if_neg x120, if_neg x122])
            clear x49 x120 x122
            go_wp2_with (at_builtin; refine wpList_append_q _ rfl _ _ rfl (w.heap.size + 1 + 1) v _ L rfl (hRH.out.own.alloc _) (some ⟨wr.heap.size, 0, none⟩) 1 1 [0] rfl rfl (one_rq _ _) (by have := HLL.out; simp; omega) (by have := hRH.out.siz; simp; omega) ?_; intro v' w1 hown' hb'; obtain ⟨A', c', e', -, -, -⟩ := owq_open hown'; subst e'; obtain ⟨⟨k0, k1⟩, -⟩ := hRH.out.keeps ((Below.refl _ _).alloc (Nat.le_refl _) _) hb')
            go_roundw
            case rel =>
              have h := hRH.out.add ((Below.refl _ _).alloc (Nat.le_refl _) _) hb' hown'
              rw [List.length_append] at h
              exact ⟨k + 1, _, J - 1, L ++ [0], hide (by have := hlen.out; omega), hide (by have := HJ.out; omega), by first | rfl | go_num, hide (HST.out _ HW.out), h⟩
            case measure => simp [intOf]; omega
    · have e : J = -1 := by omega
      subst e
      obtain ⟨A, c, rfl, C1, O1⟩ := hRH.out.done
      obtain ⟨q1, q2⟩ := bcellW hRH.out.bel
      have d0 : wr.cell? ⟨w.heap.size, 0, none⟩ = some (.slice none 0 0) := (q1 _ _ (by omega)).trans r0
      have d1 : wr.cell? ⟨w.heap.size, 1, none⟩ = some (.bool false) := (q1 _ _ (by omega)).trans r1
      have d2 : wr.frozen? ⟨w.heap.size, 0, none⟩ = false := (q2 _ _ (by omega)).trans g0
      have d3 : wr.frozen? ⟨w.heap.size, 1, none⟩ = false := (q2 _ _ (by omega)).trans g1
      have hB2 : Below w.heap.size w wr := hB.trans (hRH.out.bel.mono (by omega))
      have HE : Hid (L = ofB s) := hide (by have h1 := HJ.out; rw [HL.out, show k = s.size by omega]; rfl)
      clear q1 q2 r0 r1 g0 g1
      go_wp2
      refine bodyPost_ret (v := .agg #[.slice A L.length c, .bool false]) (by simp [results, Tryz.results61, go_sem, *]) rfl ?_
      exact ⟨L, false, A, c, hide (by rw [HE.out]), rfl, C1, hide (OwQ.base (B := w.heap.size + 1 + 1) (owT O1) (by omega)), belo⟩
end
section
set_option maxRecDepth 100000
set_option linter.unusedSectionVars false
section
variable {a b : Vc} (ha : By a.b) (hb : By b.b)
include ha hb
end
section
variable {a b : Vc} (ha : By a.b) (hb : By b.b) (ka : kn (cnt a).b = true) (kb : kn (cnt b).b = true)
include ha hb ka kb
end
theorem cnt_btw {a b : Vc} (ha : By a.b) (hb : By b.b) {f : Int → Int → Int} (hf : ∀ i, i < wd a b → 0 ≤ f (qt (blA a b) i) (qt (blB a b) i) ∧ f (qt (blA a b) i) (qt (blB a b) i) ≤ 3) : cnt (btw f a b) = btw f a b :=
  cnt_of_gd (gd_ql (wd_bd ha hb).1 (wd_bd ha hb).2 hf)
section
variable {a b : Vc} (ha : By a.b) (hb : By b.b) (ka : kn (cnt a).b = true) (kb : kn (cnt b).b = true)
include ha hb ka kb
end
end
section
set_option maxRecDepth 100000
structure Rf (a c : Vc) : Prop where
  ga : Gd a.b
  gc : Gd c.b
  s : a.s = c.s
  n : a.b.length = c.b.length
  le : ∀ i, mLeq (qt a.b i) (qt c.b i) = true
section
variable {a b c d : Vc}
theorem Rf.ca (h : Rf a c) : cnt a = a := cnt_of_gd h.ga
theorem Rf.cc (h : Rf a c) : cnt c = c := cnt_of_gd h.gc
theorem hlen_add : ∀ m n s l, fAdd m n s = some l → l.length = m.length := by
  intro m n s l h; unfold fAdd at h; injection h with h; rw [← h, vz_length]
theorem hlen_sub : ∀ m n s l, fSub m n s = some l → l.length = m.length := by
  intro m n s l h; unfold fSub at h; injection h with h; rw [← h, vz_length]
theorem hlen_mul : ∀ m n s l, fMul m n s = some l → l.length = m.length := by
  intro m n s l h; unfold fMul at h; injection h with h; rw [← h, vz_length]
theorem hlen_div : ∀ m n s l, fDiv m n s = some l → l.length = m.length := by
  intro m n s l h; unfold fDiv at h; split at h
  · cases h
  · injection h with h; rw [← h, vz_length]
theorem hlen_mod : ∀ m n s l, fMod m n s = some l → l.length = m.length := by
  intro m n s l h; unfold fMod at h; split at h
  · cases h
  · injection h with h; rw [← h, vz_length]
theorem cnt_cnt (a : Vc) : cnt (cnt a) = cnt a := by
  by_cases h : chk a.b = 0
  · have e : cnt a = a := if_pos h
    rw [e, e]
  · have e : cnt a = ⟨[2], false⟩ := if_neg h
    rw [e]; exact cnt_of_gd gd_x
end
end
section
open Go.RowKit
set_option maxRecDepth 100000
set_option linter.unusedSimpArgs false
set_option linter.unusedVariables false
theorem wpList_make_bvo (w : World) {ops : Array Oper} {rest : List Oper} {o : Oper} {a : Act} {Q : Exit → Act → World → Prop} (hg : o.guard = none) (x y : Operand) (hop : o.op = Op.makeSlice 82 x y)
    (L C : Int) (n : Nat) (hl : a.eval x = .int .i64 L) (hc : a.eval y = .int .i64 C) (hL : L = n) (hC : C = n) (hn : n ≤ 4096)
    (hK : ∀ w', w'.ownsRow w.heap.size 4 1 (.slice (some ⟨w.heap.size, 0, none⟩) n n) n ((bl n fun _ => false).map Value.bool) → Below w.heap.size w w' → wpList Tryz.prog ops Q rest (a.put o.dst (.slice (some ⟨w.heap.size, 0, none⟩) n n)) w') :
    wpList Tryz.prog ops Q (o :: rest) a w := by
  obtain ⟨i0, hi, hz0, hz1, hz2⟩ := info_parts bool_info
  refine wpList_make_full w hg x y 82 hop w.heap.size 4 i0 (.bool false) 1 Tryz.underlying82 hi hz0 hz1 .i64 .i64 L C n hl hc hL hC (by rw [hz2]; omega) (by simp only [maxLen]; omega) (Nat.le_refl _) ?_
  intro w' hown hgrow
  have hlen : (madeCells (Value.bool false).cells (n * 1)).toList = (bl n fun _ => false).map Value.bool := by
    rw [Nat.mul_one, show (Value.bool false).cells = #[.bool false] from rfl, toList_madeCells_one]
    unfold bl
    apply List.ext_getElem (by simp)
    intro i h1 h2
    simp
  rw [hlen] at hown
  exact hK w' hown ((Below.refl _ _).grown hgrow (Nat.le_refl _) (fun k hk => by cases hk))
structure FillO (w : World) (n k : Nat) (f : Nat → Bool) (wr : World) : Prop where
  row : wr.ownsRow w.heap.size 4 1 (.slice (some ⟨w.heap.size, 0, none⟩) n n) n ((bl n (Par k f)).map Value.bool)
  bel : Below w.heap.size w wr
theorem FillO.step {w wr : World} {n k : Nat} {f : Nat → Bool} (h : FillO w n k f wr) (hk : k < n) : FillO w n (k + 1) f (wr.setCell ⟨w.heap.size, k, none⟩ (.bool (f k))) where
  row := by
    have h1 := h.row.stored k (.bool (f k))
    have e : (((bl n (Par k f)).map Value.bool).set k (.bool (f k))) = (bl n (Par (k + 1) f)).map Value.bool := by
      apply List.ext_getElem (by simp [bl])
      intro i h1 h2
      have hi : i < n := by simpa [bl] using h2
      rw [List.getElem_set]
      simp only [bl, List.getElem_map, List.getElem_range]
      rw [← Par.step k f i]
      by_cases e : k = i
      · subst e; simp
      · rw [if_neg e, if_neg (fun h => e h.symm)]
    rw [e] at h1
    exact h1.1
  bel := h.bel.setCell (by simp) _
set_option maxHeartbeats 1000000 in
theorem number_o (A : Option Addr) (a : List Int) (c : Nat) (w : World) (ha : a.length ≤ 4096) (hA : RQ w A a) :
    Calls Tryz.prog 117 #[.slice A a.length c] w fun e w' => ∃ g, e = .returned (.slice (some ⟨g, 0, none⟩) a.length a.length) ∧ Hid (w'.ownsRow w.heap.size 4 1 (.slice (some ⟨g, 0, none⟩) a.length a.length) a.length ((nb a).map Value.bool)) ∧ Below w.heap.size w w' := by
  have HA := hide hA
  clear hA
  go_enter Tryz.func117, Tryz.ntmps117
  go_wp2_with (at_make; refine wpList_make_bvo _ rfl _ _ rfl _ _ a.length rfl rfl rfl rfl ha ?_; intro w1 hr1 hb1)
  go_loopw [11] (fun i wr => ∃ k : Nat, k ≤ a.length ∧ i = .int .i64 k ∧ FillO w a.length k (fun i => decide (qt a i = 1)) wr) (fun i _ => a.length - (intOf i).toNat)
  case atStart => exact ⟨0, Nat.zero_le _, rfl, ⟨by rw [show bl a.length (Par 0 fun i => decide (qt a i = 1)) = bl a.length fun _ => false from bl_congr fun i _ => by simp [Par]]; exact hr1, hb1⟩⟩
  case round =>
    obtain ⟨k, hk, rfl, hR⟩ := hrel
    clear hr1 hb1
    by_cases hlt : k < a.length
    · have hRH := hide hR
      have hcg : ∃ v, wr.cell? ⟨w.heap.size, k, none⟩ = some v := by
        rw [hR.row.cellAt k (by omega), List.getElem?_map, List.getElem?_eq_getElem (by rw [bl_length]; exact hlt)]
        exact ⟨_, rfl⟩
      obtain ⟨v, hcg⟩ := hcg
      have hf : wr.frozen? ⟨w.heap.size, k, none⟩ = false := hR.row.frozenAt k
      obtain ⟨ad, rfl, hlt1, hc⟩ := (HA.out.below hR.bel).at_ hlt
      clear hR
      go_wp2
      go_roundw
      case rel => exact ⟨k + 1, by omega, by go_num, hRH.out.step hlt⟩
      case measure => simp [intOf]; omega
    · have hRH := hide hR
      clear hR
      go_wp2
      go_ret
      have e : k = a.length := by omega
      subst e
      refine ⟨w.heap.size, rfl, hide ?_, hRH.out.bel⟩
      have h := hRH.out.row
      rw [show bl a.length (Par a.length fun i => decide (qt a i = 1)) = nb a from bl_congr fun i hi => by simp [Par, hi]] at h
      exact h
def nx (l : List Int) (s : Bool) : List Bool := if s then nb l else nb l ++ [false]
def IntV (a : Vc) (e : Ending) : Prop := if kn (cnt a).b then IntA (nx (cnt a).b (cnt a).s) e else e = .returned (.tuple #[.int .i64 0, .bool false])
set_option maxHeartbeats 1000000 in
theorem vInt_any (A : Option Addr) (a : List Int) (c : Nat) (s : Bool) (w : World) (ha : a.length ≤ 4096) (hca : Hid (a.length ≤ c ∧ c ≤ maxLen)) (hA : RQ w A a) (ya : By a) :
    Calls Tryz.prog 36 #[.agg #[.slice A a.length c, .bool s]] w fun e w' => IntV ⟨a, s⟩ e ∧ Below w.heap.size w w' := by
  have HA := hide hA
  have LA := hide ha
  have YA := hide ya
  clear hA ha ya
  go_enter Tryz.func36, Tryz.ntmps36
  go_wp2_with fail
  refine (counted_any A a c s w _ LA.out hca HA.out belo).mono ?_
  rintro e w1 ⟨l1, s1, A1, c1, E1, rfl, C1, O1, hb⟩
  replace O1 := hide (O1.out.lower (show w.heap.size + 1 ≤ _ by first | omega | (simp; omega) | (simp; done)))
  have hB1 : Below w.heap.size w w1 := Below.trans belo (hb.mono as4)
  obtain ⟨kc1, kf1⟩ := bcell hb
  have hz1 := hb.size
  (try simp at hz1)
  have n1_0 : w.heap.size < w1.heap.size := by omega
  clear hb
  have m1_0 : w1.cell? ⟨w.heap.size, 0, none⟩ = some (.slice A a.length c) := (kc1 _ _ as0).trans as1
  have v1_0 : w1.frozen? ⟨w.heap.size, 0, none⟩ = false := (kf1 _ _ as0).trans as1
  have m1_1 : w1.cell? ⟨w.heap.size, 1, none⟩ = some (.bool s) := (kc1 _ _ as0).trans as1
  have v1_1 : w1.frozen? ⟨w.heap.size, 1, none⟩ = false := (kf1 _ _ as0).trans as1
  have G1 : Gd l1 := by have h := cnt_gd (v := ⟨a, s⟩) YA.out; rw [← E1.out] at h; exact h
  have HG1 := hide G1
  have u1 := G1.le
  have p1 := G1.pos
  clear G1
  go_wp2_with fail
  obtain ⟨V, hV⟩ : ∃ x, x = ((w1.setCell ⟨w.heap.size, 0, none⟩ (.slice A1 l1.length c1)).setCell ⟨w.heap.size, 1, none⟩ (.bool s1)) := ⟨_, rfl⟩
  rw [← hV]
  have hBV : Below w.heap.size w V := by rw [hV]; exact belo
  have qV0_0 : V.cell? ⟨w.heap.size, 0, none⟩ = some (.slice A1 l1.length c1) := by rw [hV]; (repeat (first | with_reducible refine cset_eq' ?_ | with_reducible refine cset_ne (by first | (simp; done) | (simp; omega)) ?_ | with_reducible refine cset_ex ?_ | exact ⟨_, by assumption⟩ | assumption))
  have jV0_0 : V.frozen? ⟨w.heap.size, 0, none⟩ = false := by rw [hV]; (repeat (first | with_reducible refine fset ?_ | assumption))
  have qV0_1 : V.cell? ⟨w.heap.size, 1, none⟩ = some (.bool s1) := by rw [hV]; (repeat (first | with_reducible refine cset_eq' ?_ | with_reducible refine cset_ne (by first | (simp; done) | (simp; omega)) ?_ | with_reducible refine cset_ex ?_ | exact ⟨_, by assumption⟩ | assumption))
  have jV0_1 : V.frozen? ⟨w.heap.size, 1, none⟩ = false := by rw [hV]; (repeat (first | with_reducible refine fset ?_ | assumption))
  have nV_0 : w.heap.size < V.heap.size := by rw [hV]; simp; omega
  replace O1 := hide (show RG w.heap.size (w.heap.size + 1) V A1 l1 by rw [hV]; (repeat (first | with_reducible exact O1.out | with_reducible refine RG.setc ?_ as3 as3 _ | with_reducible refine RG.allc ?_ _ | with_reducible refine RG.drew ?_ | with_reducible refine RG.drewN ?_ _)))
  clear hV kc1 kf1
  have k1 := hide fun W (hW : Below V.heap.size V W) => known_any A1 l1 c1 W (by omega) (O1.out.rd.below hW)
  cases hk : kn l1
  · rw [hk] at k1
    have HK := hide hk
    clear hk
    go_wp2_with fail
    refine (k1.out _ belo).mono ?_
    rintro e w' ⟨rfl, rfl⟩
    go_wp2
    go_ret2
    exact ⟨by unfold IntV; rw [← E1.out, if_neg (by rw [HK.out]; decide)]; rfl, belo⟩
  · rw [hk] at k1
    have HK := hide hk
    clear hk
    go_wp2_with fail
    refine (k1.out _ belo).mono ?_
    rintro e w' ⟨rfl, rfl⟩
    go_wp2_with fail
    refine (number_o A1 l1 c1 _ (by omega) (by exact O1.out.rd)).mono ?_
    rintro e w2 ⟨g, rfl, ho, hb⟩
    replace O1 := hide ((show RG w.heap.size (w.heap.size + 1) _ A1 l1 from rgT O1).kept hb)
    have hB2 : Below w.heap.size w w2 := Below.trans belo (hb.mono as4)
    obtain ⟨kc2, kf2⟩ := bcell hb
    have hz2 := hb.size
    (try simp at hz2)
    have n2_0 : w.heap.size < w2.heap.size := by omega
    have m2_0 : w2.cell? ⟨w.heap.size, 0, none⟩ = some (.slice A1 l1.length c1) := (kc2 _ _ as0).trans as1
    have v2_0 : w2.frozen? ⟨w.heap.size, 0, none⟩ = false := (kf2 _ _ as0).trans as1
    have m2_1 : w2.cell? ⟨w.heap.size, 1, none⟩ = some (.bool s1) := (kc2 _ _ as0).trans as1
    have v2_1 : w2.frozen? ⟨w.heap.size, 1, none⟩ = false := (kf2 _ _ as0).trans as1
    clear kc2 kf2
    clear hb
    cases s1
    · go_wp2_with (at_builtin; refine wpList_append_bv _ rfl _ _ rfl V.heap.size _ _ (nb l1) rfl (ho.out.alloc _) (some ⟨w2.heap.size, 0, none⟩) 1 1 [false] rfl rfl (one_rd _ _) (by rw [nb_length]; simp; omega) (by first | omega | (simp; omega)) ?_; intro v' w3 hown hb3; obtain ⟨A', c', e, h1, h2, h3⟩ := own_open hown; obtain ⟨z, hz⟩ : ∃ z, z = nb l1 ++ [false] := ⟨_, rfl⟩; rw [← hz] at e h3; subst e; have H3 := hide h3.rd; have hzl : z.length ≤ 4096 := (by rw [hz]; simp [nb_length]; omega); have HZ := hide hz; have hB3 : Below w.heap.size w w3 := Below.trans belo (hb3.mono (by first | omega | (simp; omega))); clear h1 h2 h3 hown hz hb3)
      refine (int_any A' z c' w3 hzl H3.out).mono ?_
      rintro e w' ⟨he, rfl⟩
      have HE : IntV ⟨a, s⟩ e := by unfold IntV; rw [← E1.out, if_pos HK.out]; unfold nx; rw [if_neg Bool.false_ne_true, ← HZ.out]; exact he
      unfold IntA at he
      rcases he with ⟨_, _, rfl⟩ | ⟨_, rfl⟩
      · go_wp2
        go_ret2
        exact ⟨HE, belo⟩
      · go_wp2
        go_ret2
        exact ⟨HE, belo⟩
    · go_wp2_with fail
      have hl : (nb l1).length = l1.length := nb_length _
      obtain ⟨z, hz⟩ : ∃ z, z = nb l1 := ⟨_, rfl⟩
      rw [← hz] at hl ho
      have HZ := hide hz
      clear hz
      have h3 : Rd w2 (some ⟨g, 0, none⟩) z := by
        have h := own_open (l := z) ho.out
        obtain ⟨A3, c3, e, _, _, h3⟩ := h
        rw [hl] at e
        injection e with e1 _ _
        rw [e1]; exact h3.rd
      have hcall := hide (int_any (some ⟨g, 0, none⟩) z l1.length w2 (by omega) h3)
      rw [hl] at hcall
      clear hl h3 ho
      refine (hcall.out).mono ?_
      rintro e w' ⟨he, rfl⟩
      have HE : IntV ⟨a, s⟩ e := by unfold IntV; rw [← E1.out, if_pos HK.out]; unfold nx; rw [if_pos rfl, ← HZ.out]; exact he
      unfold IntA at he
      rcases he with ⟨_, _, rfl⟩ | ⟨_, rfl⟩
      · go_wp2
        go_ret2
        exact ⟨HE, belo⟩
      · go_wp2
        go_ret2
        exact ⟨HE, belo⟩
end
section
open Go.RowKit
set_option maxRecDepth 100000
set_option linter.unusedSimpArgs false
set_option linter.unusedVariables false
def Bls (B g : Nat) (w : World) (x : Option Addr × Nat × Nat) : Prop := 0 < x.2.1 → ∃ gi F, x.1 = some ⟨gi, 0, none⟩ ∧ B ≤ gi ∧ gi ≠ g ∧ RowF w gi x.2.1 F
theorem Bls.stored {B g : Nat} {w : World} {x : Option Addr × Nat × Nat} (h : Bls B g w x) (gj k : Nat) (v : Bool) : Bls B g (w.setCell ⟨gj, k, none⟩ (.bool v)) x := fun hn => by
  obtain ⟨gi, F, e, h1, h2, h3⟩ := h hn
  by_cases hg : gi = gj
  · subst hg; exact ⟨gi, _, e, h1, h2, h3.set_ k v⟩
  · exact ⟨gi, F, e, h1, h2, h3.far (by simpa using hg) _⟩
structure SpR (B g : Nat) (vs : List (Option Addr × Nat × Nat)) (w wr : World) : Prop where
  sls : Sls wr g vs
  bls : ∀ i (h : i < vs.length), Bls B g wr vs[i]
  bel : Below B w wr
theorem SpR.stored {B g : Nat} {vs : List (Option Addr × Nat × Nat)} {w wr : World} (h : SpR B g vs w wr) {gj k : Nat} (hB : B ≤ gj) (hg : gj ≠ g) (v : Bool) : SpR B g vs w (wr.setCell ⟨gj, k, none⟩ (.bool v)).drew where
  sls := fun i hi => by
    show (wr.setCell _ _).cell? _ = _
    rw [World.cell?_setCell_other _ _ _ _ (by intro e; injection e; omega)]
    exact h.sls i hi
  bls := fun i hi => (h.bls i hi).stored gj k v
  bel := (h.bel.setCell (by simpa using hB) _).drew
end
section
open Go.RowKit
set_option maxRecDepth 100000
set_option linter.unusedSimpArgs false
set_option linter.unusedVariables false
structure MR (w : World) (A B X Y : Option Addr) (a b x y : List Bool) (wr : World) : Prop where
  ra : Rd wr A a
  rb : Rd wr B b
  rx : Rd wr X x
  ry : Rd wr Y y
  bel : Below w.heap.size w wr
theorem MR.next {w wr w' : World} {A B X Y : Option Addr} {a b x y : List Bool} (h : MR w A B X Y a b x y wr) (hb : Below wr.heap.size wr w') : MR w A B X Y a b x y w' :=
  ⟨h.ra.below hb, h.rb.below hb, h.rx.below hb, h.ry.below hb, h.bel.trans (hb.mono h.bel.size)⟩
end
section
open Go.RowKit
set_option maxRecDepth 100000
set_option linter.unusedSimpArgs false
set_option linter.unusedVariables false
theorem u64_dbl (X : Nat) : IntKind.u64.wrap (((X % 18446744073709551616 : Nat) : Int) * 2) = ((2 * X % 18446744073709551616 : Nat) : Int) := by
  rw [IntKind.wrap_u64]; omega
theorem u64_dbl1 (X : Nat) : IntKind.u64.wrap (((2 * X % 18446744073709551616 : Nat) : Int) + 1) = (((2 * X + 1) % 18446744073709551616 : Nat) : Int) := by
  rw [IntKind.wrap_u64]; omega
set_option maxHeartbeats 1000000 in
theorem ruint_any (A : Option Addr) (a : List Bool) (c : Nat) (w : World) (ha : a.length ≤ 4096) (hca : Hid (a.length ≤ c ∧ c ≤ maxLen)) (hA : Rd w A a) :
    Calls Tryz.prog 155 #[.slice A a.length c] w fun e w' => UintA a e ∧ Below w.heap.size w w' := by
  go_enter Tryz.func155, Tryz.ntmps155
  go_wp2_with fail
  refine (trim_any A a c w ha hca hA).mono ?_
  rintro e w1 ⟨x, X, cx, Ex, rfl, Cx, Ox, hb1⟩
  have B1 := hide hb1
  have hx4 : x.length ≤ 4096 := Nat.le_trans Ex.out.2.1 ha
  have Rx := hide Ox.out.rd
  clear hb1
  go_wp2
  go_loop [4, 5] (fun n i => ∃ k : Nat, k ≤ x.length ∧ i = .int .i64 ((k : Int) - 1) ∧ n = .int .u64 ((nv x / 2 ^ k % 18446744073709551616 : Nat) : Int)) (fun _ i => (intOf i + 1).toNat)
  case atStart => exact ⟨x.length, Nat.le_refl _, rfl, by rw [full_zero]; rfl⟩
  case round =>
    obtain ⟨k, hk, rfl, rfl⟩ := hrel
    rcases Nat.eq_zero_or_pos k with h0 | h0
    · subst h0
      have e1 := Ex.out.1
      rw [Nat.pow_zero, Nat.div_one, e1]
      by_cases h64 : x.length ≤ 64
      · have hlt : nv a < 2 ^ 64 := by
          have := nv_lt x
          have h2 : 2 ^ x.length ≤ 2 ^ 64 := Nat.pow_le_pow_right (by decide) h64
          omega
        have HLT := hide hlt
        clear e1 hlt
        go_wp2
        go_ret2
        exact ⟨UintA.yes (m := nv a % 18446744073709551616) (by rw [Nat.mod_eq_of_lt HLT.out]) (by have := HLT.out; omega), B1.out⟩
      · have hge : 2 ^ 64 ≤ nv a := by
          have h1 := nf_big (f := bt x) (n := x.length) (i := x.length - 1) (by omega) (Ex.out.2.2 (by omega))
          have h2 : 2 ^ 64 ≤ 2 ^ (x.length - 1) := Nat.pow_le_pow_right (by decide) (by omega)
          have h3 : nf (bt x) x.length = nv x := rfl
          omega
        have HGE := hide hge
        clear e1 hge
        go_wp2
        go_ret2
        exact ⟨UintA.no HGE.out, B1.out⟩
    · obtain ⟨m, rfl⟩ : ∃ m, k = m + 1 := ⟨k - 1, by omega⟩
      rw [show (((m + 1 : Nat)) : Int) - 1 = m by omega]
      have hmx : m < x.length := by omega
      have hst := hide (half_step x m)
      obtain ⟨Y, hY⟩ : ∃ Y, Y = nv x / 2 ^ (m + 1) := ⟨_, rfl⟩
      rw [← hY] at hst ⊢
      clear hY
      have hd := u64_dbl Y
      have hd1 := hide (u64_dbl1 Y)
      obtain ⟨y, hy⟩ : ∃ y : Int, y = ((Y % 18446744073709551616 : Nat) : Int) := ⟨_, rfl⟩
      rw [← hy] at hd ⊢
      obtain ⟨y2, hy2⟩ : ∃ y2 : Int, y2 = ((2 * Y % 18446744073709551616 : Nat) : Int) := ⟨_, rfl⟩
      rw [← hy2] at hd
      have hyb : 0 ≤ y ∧ y < 18446744073709551616 := by rw [hy]; omega
      have hyb2 : 0 ≤ y2 ∧ y2 < 18446744073709551616 := by rw [hy2]; omega
      obtain ⟨hyl, hyh⟩ := hyb
      obtain ⟨hyl2, hyh2⟩ := hyb2
      have HY := hide hy
      have HY2 := hide hy2
      have HD := hide hd
      clear hy hy2 hd
      obtain ⟨ad, rfl, hlt1, hc⟩ := Rx.out.at_ hmx
      cases hx : bt x m
      · rw [hx] at hc
        have hx' := hide hx
        clear hx
        go_wp2
        go_round
        case rel => exact ⟨m, by omega, rfl, by rw [HD.out, HY2.out, hst.out, hx'.out]; simp⟩
        case measure => first | (simp [intOf]; done) | (simp [intOf]; omega)
      · rw [hx] at hc
        have hx' := hide hx
        clear hx
        go_wp2
        go_round
        case rel => exact ⟨m, by omega, rfl, by rw [HD.out, HY2.out, hd1.out, hst.out, hx'.out]; simp⟩
        case measure => first | (simp [intOf]; done) | (simp [intOf]; omega)
end
section
set_option maxRecDepth 100000
set_option linter.unusedSectionVars false
section
variable {a b : Vc}
end
section
variable {a b : Vc} (ha : By a.b) (hb : By b.b)
include ha hb
end
def cats (l : List Vc) : List Int := (l.reverse.map fun v => (cnt v).b).flatten
def cte (l : List Vc) : Int := if l = [] then 4 else if 128 < (cats l).length then 12 else 0
theorem cats_cons (v : Vc) (l : List Vc) : cats (v :: l) = cats l ++ (cnt v).b := by unfold cats; simp
theorem IntV_val {v : Vc} {e : Ending} {z : Int} (h : IntV v e) (hk : kn (cnt v).b = true) (hz : sv (nx (cnt v).b (cnt v).s) = z) (h1 : -9223372036854775808 ≤ z) (h2 : z ≤ 9223372036854775807) : e = .returned (.tuple #[.int .i64 z, .bool true]) := by
  unfold IntV at h
  rw [if_pos hk] at h
  rcases h with ⟨_, _, rfl⟩ | ⟨h3, rfl⟩
  · rw [hz]
  · rw [hz] at h3; exact absurd ⟨h1, h2⟩ h3
end
section
open Go.RowKit
set_option maxRecDepth 100000
set_option linter.unusedSimpArgs false
set_option linter.unusedVariables false
abbrev Va := Option Addr × List Int × Nat × Bool
def vcs (vs : List Va) : List Vc := vs.map fun x => ⟨x.2.1, x.2.2.2⟩
structure Vrow (w : World) (g : Nat) (vs : List Va) : Prop where
  c0 : ∀ i (h : i < vs.length), w.cell? ⟨g, i * 2, none⟩ = some (.slice vs[i].1 vs[i].2.1.length vs[i].2.2.1)
  c1 : ∀ i (h : i < vs.length), w.cell? ⟨g, i * 2 + 1, none⟩ = some (.bool vs[i].2.2.2)
  rd : ∀ i (h : i < vs.length), RQ w vs[i].1 vs[i].2.1
  by_ : ∀ i (h : i < vs.length), By vs[i].2.1
  le : ∀ i (h : i < vs.length), vs[i].2.1.length ≤ 4096
  cp : ∀ i (h : i < vs.length), Hid (vs[i].2.1.length ≤ vs[i].2.2.1 ∧ vs[i].2.2.1 ≤ maxLen)
structure OwnT (W : World) (v : Value) (l : List Int) (wr : World) : Prop where
  own : wr.ownsRow W.heap.size 65 1 v l.length (l.map (Value.int .u8))
  bel : Below W.heap.size W wr
theorem cats_drop {vs : List Va} {m : Nat} (h : m < vs.length) : cats (vcs (vs.drop m)) = cats (vcs (vs.drop (m + 1))) ++ (cnt ⟨vs[m].2.1, vs[m].2.2.2⟩).b := by
  rw [List.drop_eq_getElem_cons h]
  unfold vcs
  rw [List.map_cons, cats_cons]
theorem cats_le (vs : List Va) : ∀ m, (cats (vcs (vs.drop m))).length ≤ (cats (vcs vs)).length
  | 0 => Nat.le_refl _
  | m + 1 => by
    refine Nat.le_trans ?_ (cats_le vs m)
    rcases Nat.lt_or_ge m vs.length with h | h
    · rw [cats_drop h, List.length_append]; omega
    · rw [List.drop_eq_nil_of_le (show vs.length ≤ m + 1 by omega)]; show (cats (vcs ([] : List Va))).length ≤ _; exact Nat.zero_le _
theorem vcs_nil {vs : List Va} : vcs vs = [] ↔ vs = [] := by unfold vcs; simp
set_option maxHeartbeats 1000000 in
theorem vConcat_any (g c : Nat) (vs : List Va) (w : World) (hg : g < w.heap.size) (h0 : 0 < vs.length) (hn : vs.length ≤ 4096) (hv : Vrow w g vs) :
    Calls Tryz.prog 25 #[.slice (some ⟨g, 0, none⟩) vs.length c] w (RetE (cte (vcs vs)) ⟨cats (vcs vs), false⟩ w) := by
  have HV := hide hv
  clear hv
  have HT := hide (cats_le vs)
  have hfld := fld0
  have h0b : ((vs.length : Int) == 0) = false := by rw [beq_eq_false_iff_ne]; omega
  obtain ⟨e0, he0⟩ : ∃ e0, e0 = cte (vcs vs) := ⟨_, rfl⟩
  rw [← he0]
  have HE0 : Hid (e0 = if 128 < (cats (vcs vs)).length then 12 else 0) := hide (by
    rw [he0]; unfold cte
    rw [if_neg fun h => by rw [vcs_nil.1 h] at h0; exact absurd h0 (by simp)])
  clear he0
  go_enter Tryz.func25, Tryz.ntmps25
  go_wp2_with fail
  generalize hW : World.alloc w _ = W
  have hBW : Below w.heap.size w W := by rw [← hW]; exact belo
  have hz : W.heap.size = w.heap.size + 1 := by rw [← hW]; simp
  have r0 : W.cell? ⟨w.heap.size, 0, none⟩ = some (.slice none 0 0) := by rw [← hW]; simp [go_sem]
  have r1 : W.cell? ⟨w.heap.size, 1, none⟩ = some (.bool false) := by rw [← hW]; simp [go_sem]
  have g0 : W.frozen? ⟨w.heap.size, 0, none⟩ = false := by rw [← hW]; simp [go_sem]
  have g1 : W.frozen? ⟨w.heap.size, 1, none⟩ = false := by rw [← hW]; simp [go_sem]
  clear hW
  go_loopw [4, 5] (fun v i wr => ∃ (m : Nat) (L : List Int), m ≤ vs.length ∧ i = .int .i64 ((m : Int) - 1) ∧ Hid (L = cats (vcs (vs.drop m))) ∧ Hid (L.length ≤ 128) ∧ OwnT W v L wr) (fun _ i _ => (intOf i + 1).toNat)
  case atStart => exact ⟨vs.length, [], Nat.le_refl _, rfl, hide (by rw [List.drop_length]; rfl), hide (by simp), ⟨owq_nil _ _, Below.refl _ _⟩⟩
  case round =>
    obtain ⟨m, L, hm, rfl, HL, HL2, hR⟩ := hrel
    have hRH := hide hR
    have hB2 : Below w.heap.size w wr := hBW.trans (hR.bel.mono (by omega))
    obtain ⟨q1, q2⟩ := bcell hR.bel
    have d0 : wr.cell? ⟨w.heap.size, 0, none⟩ = some (.slice none 0 0) := (q1 _ _ (by omega)).trans r0
    have d1 : wr.cell? ⟨w.heap.size, 1, none⟩ = some (.bool false) := (q1 _ _ (by omega)).trans r1
    have d2 : wr.frozen? ⟨w.heap.size, 0, none⟩ = false := (q2 _ _ (by omega)).trans g0
    have d3 : wr.frozen? ⟨w.heap.size, 1, none⟩ = false := (q2 _ _ (by omega)).trans g1
    have hzr : w.heap.size < wr.heap.size := by have := hR.bel.size; omega
    clear hR q1 q2
    rcases m with _ | m
    · rw [show (((0 : Nat) : Int) - 1) = -1 from rfl]
      have HF := hide (show L = cats (vcs vs) from HL.out)
      have hown := hRH.out.own
      obtain ⟨A', c', e', k1, k2, o'⟩ := owq_open hown
      subst e'
      have HC := hide (And.intro k1 k2)
      have HO := hide o'
      have HE := hide (show e0 = 0 by rw [HE0.out, if_neg (by rw [← HF.out]; have := HL2.out; omega)])
      clear hown k1 k2 o' r0 r1 g0 g1
      go_wp2
      refine bodyPost_ret (v := .tuple #[.agg #[.slice A' L.length c', .bool false], .int .i64 0]) (by simp [results, Tryz.results25, go_sem, *]) rfl ?_
      rw [HE.out]
      exact ⟨L, false, A', c', hide (by rw [if_pos rfl, HF.out]), rfl, HC, hide (OwQ.base (B := W.heap.size) (by refine OwQ.far (OwQ.far HO.out (by simp; omega) _) (by simp; omega) _) (by omega)), belo⟩
    · rw [show (((m + 1 : Nat) : Int) - 1) = m by omega]
      have hlt : m < vs.length := by omega
      obtain ⟨⟨A, a, d, s⟩, hx⟩ : ∃ x, x = vs[m] := ⟨_, rfl⟩
      have hc0 := (hB2.cell (p := ⟨g, m * 2, none⟩) hg).trans (HV.out.c0 m hlt)
      have hc1 := (hB2.cell (p := ⟨g, m * 2 + 1, none⟩) hg).trans (HV.out.c1 m hlt)
      have hrq := HV.out.rd m hlt
      have hby := HV.out.by_ m hlt
      have hle := HV.out.le m hlt
      have hcp := HV.out.cp m hlt
      have HD := hide (cats_drop hlt)
      rw [← hx] at hc0 hc1 hrq hby hle hcp HD
      simp only at hc0 hc1 hrq hby hle hcp HD
      have HQ := hide hrq
      have HBY := hide hby
      clear hx hrq hby r0 r1 g0 g1
      go_wp2_with fail
      refine (counted_any A a d s w _ hle hcp HQ.out hB2).mono ?_
      rintro e w1 ⟨l1, s1, A1, c1, E1, rfl, C1, O1, hb⟩
      have hB3 : Below w.heap.size w w1 := hB2.trans (hb.mono (by omega))
      obtain ⟨q1, q2⟩ := bcell hb
      have d10 : w1.cell? ⟨w.heap.size, 0, none⟩ = some (.slice none 0 0) := (q1 _ _ hzr).trans d0
      have d11 : w1.cell? ⟨w.heap.size, 1, none⟩ = some (.bool false) := (q1 _ _ hzr).trans d1
      have d12 : w1.frozen? ⟨w.heap.size, 0, none⟩ = false := (q2 _ _ hzr).trans d2
      have d13 : w1.frozen? ⟨w.heap.size, 1, none⟩ = false := (q2 _ _ hzr).trans d3
      have G1 : Gd l1 := by have h := cnt_gd (v := ⟨a, s⟩) HBY.out; rw [← E1.out] at h; exact h
      have HG1 := hide G1
      have hzb := hb.size
      have hz1 : w.heap.size < w1.heap.size := by omega
      have hown := hide (ownsRow_kept hRH.out.own hb)
      have hbW := hide (hRH.out.bel.trans (hb.mono hRH.out.bel.size))
      have HL3 : Hid (cats (vcs (List.drop m vs)) = L ++ l1) := hide (by rw [HD.out, HL.out, ← E1.out])
      clear hb q1 q2 d0 d1 d2 d3 hB2 hRH HD HL E1 hc0 hc1 hcp G1 hzb hzr HQ HBY hle
      go_wp2_with (at_builtin; go_must (refine wpList_append_q _ rfl _ _ rfl W.heap.size _ _ L rfl hown.out A1 l1.length c1 l1 rfl rfl O1.out.rd (by have := HL2.out; have := HG1.out.le; omega) (hbW.out.size) ?_; intro v' w2 hown' hb'; obtain ⟨l2, hl2⟩ : ∃ z, z = L ++ l1 := ⟨_, rfl⟩; rw [← hl2] at hown'; obtain ⟨A2, c2, e', k1, k2, o2⟩ := owq_open hown'; subst e'; have HO2 := hide (And.intro hown' o2); have C2 := hide (And.intro k1 k2); have HL4 := hide hl2; have HB4 := hide hb'; obtain ⟨q1, q2⟩ := bcellW hb'; have d20 : w2.cell? ⟨w.heap.size, 0, none⟩ = some (.slice none 0 0) := (q1 _ _ (by omega)).trans d10; have d21 : w2.cell? ⟨w.heap.size, 1, none⟩ = some (.bool false) := (q1 _ _ (by omega)).trans d11; have d22 : w2.frozen? ⟨w.heap.size, 0, none⟩ = false := (q2 _ _ (by omega)).trans d12; have d23 : w2.frozen? ⟨w.heap.size, 1, none⟩ = false := (q2 _ _ (by omega)).trans d13; have hB5 : Below w.heap.size w w2 := hB3.trans (hb'.mono (by omega)); have hz2 : w.heap.size < w2.heap.size := Nat.lt_of_lt_of_le hz1 hb'.size; have hm2 : l2.length ≤ 4096 := (by rw [hl2, List.length_append]; have := HL2.out; have := HG1.out.le; omega); clear hown' o2 k1 k2 hl2 hb' q1 q2 d10 d11 d12 d13 hB3 hz1 hown))
      · have hh : 128 < l2.length := by omega
        have HE := hide (show e0 = 12 by
          rw [HE0.out, if_pos]
          have h1 := HT.out m
          rw [HL3.out, ← HL4.out] at h1
          omega)
        refine bodyPost_ret (v := .tuple #[.agg #[.slice none 0 0, .bool false], .int .i64 12]) (by simp [results, Tryz.results25, go_sem, *]) rfl ?_
        rw [HE.out]
        exact ⟨[], false, none, 0, hide (by rw [if_neg (by decide)]; exact ⟨rfl, rfl⟩), rfl, hide ⟨Nat.le_refl _, by simp [maxLen]⟩, hide (fun h => absurd h (by simp)), belo⟩
      · have hh : l2.length ≤ 128 := by omega
        go_roundw
        case rel => exact ⟨m, l2, by omega, rfl, hide (by rw [HL3.out, HL4.out]), hide hh, ⟨by have h := HO2.out.1; have e : L.length + l1.length = l2.length := (by rw [HL4.out, List.length_append]); rw [e] at h; exact h, hbW.out.trans HB4.out⟩⟩
        case measure => simp [intOf] <;> omega
end
section
open Go.RowKit
set_option maxRecDepth 100000
set_option linter.unusedSimpArgs false
set_option linter.unusedVariables false
set_option maxHeartbeats 1000000 in
theorem vsof_any (s : ByteArray) (w : World) (hn : s.size ≤ 4096) :
    Calls Tryz.prog 62 #[.string s] w (RetC (· = ⟨ofB s, true⟩) w) := by
  go_enter Tryz.func62, Tryz.ntmps62
  go_wp2_with fail
  refine (vof_any s _ hn).mono ?_
  rintro e w1 ⟨l1, s1, A1, c1, E1, rfl, C1, O1, hb⟩
  replace O1 := hide (O1.out.base (show w.heap.size + 1 ≤ _ by first | omega | (simp; omega) | (simp; done)))
  have hB1 : Below w.heap.size w w1 := Below.trans belo (hb.mono as4)
  obtain ⟨kc1, kf1⟩ := bcell hb
  have hz1 := hb.size
  (try simp at hz1)
  have n1_0 : w.heap.size < w1.heap.size := by omega
  have r1_0 : w1.cell? ⟨w.heap.size, 0, none⟩ = some (.slice none 0 0) := (kc1 _ _ as0).trans as2
  have g1_0 : w1.frozen? ⟨w.heap.size, 0, none⟩ = false := (kf1 _ _ as0).trans as2
  have r1_1 : w1.cell? ⟨w.heap.size, 1, none⟩ = some (.bool false) := (kc1 _ _ as0).trans as2
  have g1_1 : w1.frozen? ⟨w.heap.size, 1, none⟩ = false := (kf1 _ _ as0).trans as2
  clear hb
  have e1 : l1 = ofB s := by have h := E1.out; injection h
  have HE := hide e1
  clear e1
  go_wp2
  refine bodyPost_ret (v := .agg #[.slice A1 l1.length c1, .bool true]) (by simp [results, Tryz.results62, go_sem, *]) rfl ?_
  exact ⟨l1, true, A1, c1, hide (by rw [HE.out]), rfl, C1, hide (OwQ.base (B := w.heap.size + 1) (owT O1) (by omega)), belo⟩
end
section
open Go.RowKit
set_option maxRecDepth 100000
set_option linter.unusedSimpArgs false
set_option linter.unusedVariables false
def Vls (w : World) (g : Nat) (vs : List (Option Addr × Nat × Nat × Bool)) : Prop :=
  ∀ i (h : i < vs.length), w.cell? ⟨g, i * 2, none⟩ = some (.slice vs[i].1 vs[i].2.1 vs[i].2.2.1) ∧ w.cell? ⟨g, i * 2 + 1, none⟩ = some (.bool vs[i].2.2.2)
set_option maxHeartbeats 1000000 in
theorem vlong_no (g c : Nat) (vs : List (Option Addr × Nat × Nat × Bool)) (w : World) (hv : vs.length ≤ 8) (h : Vls w g vs) (hs : ∀ i (h : i < vs.length), vs[i].2.1 ≤ 140) :
    Calls Tryz.prog 7 #[.slice (some ⟨g, 0, none⟩) vs.length c] w fun e w' => e = .returned (.bool false) ∧ w = w' := by
  have H := hide h
  have HS := hide hs
  clear h hs
  go_enter Tryz.func7, Tryz.ntmps7
  go_wp2_with fail
  go_loop [3] (fun i => ∃ k : Nat, k ≤ vs.length ∧ i = .int .i64 k) (fun i => vs.length - (intOf i).toNat)
  case atStart => exact ⟨0, Nat.zero_le _, rfl⟩
  case round =>
    obtain ⟨k, hk, rfl⟩ := hrel
    by_cases hlt : k < vs.length
    · obtain ⟨hc, hd⟩ := H.out k hlt
      have h1 := HS.out k hlt
      obtain ⟨x, hx⟩ : ∃ x, x = vs[k] := ⟨_, rfl⟩
      rw [← hx] at hc hd h1
      clear hx
      go_wp2
      go_round
      case rel => exact ⟨k + 1, by omega, by go_num⟩
      case measure => simp [intOf]; omega
    · go_wp2
      go_ret
      exact ⟨rfl, rfl⟩
set_option maxHeartbeats 1000000 in
theorem vlong_yes (g c : Nat) (vs : List (Option Addr × Nat × Nat × Bool)) (w : World) (hv : vs.length ≤ 8) (h : Vls w g vs) (hs : ∃ i, ∃ h : i < vs.length, 140 < vs[i].2.1) (hm : ∀ i (h : i < vs.length), vs[i].2.1 ≤ maxLen) :
    Calls Tryz.prog 7 #[.slice (some ⟨g, 0, none⟩) vs.length c] w fun e w' => e = .returned (.bool true) ∧ w = w' := by
  have H := hide h
  have HS := hide hs
  have HM := hide hm
  clear h hs hm
  go_enter Tryz.func7, Tryz.ntmps7
  go_wp2_with fail
  go_loop [3] (fun i => ∃ k : Nat, k ≤ vs.length ∧ i = .int .i64 k ∧ Hid (∀ j (h : j < vs.length), j < k → vs[j].2.1 ≤ 140)) (fun i => vs.length - (intOf i).toNat)
  case atStart => exact ⟨0, Nat.zero_le _, rfl, hide fun j h hj => by omega⟩
  case round =>
    obtain ⟨k, hk, rfl, hno⟩ := hrel
    by_cases hlt : k < vs.length
    · obtain ⟨hc, hd⟩ := H.out k hlt
      have h2 := HM.out k hlt
      unfold maxLen at h2
      obtain ⟨x, hx⟩ : ∃ x, x = vs[k] := ⟨_, rfl⟩
      rw [← hx] at hc hd h2
      have hx' := hide hx
      clear hx
      by_cases h1 : x.2.1 ≤ 140
      · go_wp2
        go_round
        case rel => exact ⟨k + 1, by omega, by go_num, hide fun j h hj => by
          by_cases e : j = k
          · subst e; rw [← hx'.out]; exact h1
          · exact hno.out j h (by omega)⟩
        case measure => simp [intOf]; omega
      · go_wp2
        go_ret
        exact ⟨rfl, rfl⟩
    · exfalso
      obtain ⟨i, hi, h1⟩ := HS.out
      have := hno.out i hi (by omega)
      omega
end
section
open Go.RowKit
set_option maxRecDepth 100000
set_option linter.unusedSimpArgs false
set_option linter.unusedVariables false
set_option maxHeartbeats 1000000 in
theorem vown_any (A : Option Addr) (a : List Int) (c : Nat) (s : Bool) (w : World) (ha : a.length ≤ 4096) (hca : Hid (a.length ≤ c ∧ c ≤ maxLen)) (hA : RQ w A a) (ya : By a) :
    Calls Tryz.prog 9 #[.agg #[.slice A a.length c, .bool s]] w (RetC (· = ⟨a, s⟩) w) := by
  have HA := hide hA
  have LA := hide ha
  have YA := hide ya
  clear hA ha ya
  go_enter Tryz.func9, Tryz.ntmps9
  go_wp2_with fail
  obtain ⟨W1, hW1⟩ : ∃ x, x = ((w.alloc (Obj.cells #[Value.slice A a.length c, Value.bool s] 24)).alloc (Obj.cells #[Value.slice none 0 0, Value.bool false] 24)) := ⟨_, rfl⟩
  rw [← hW1]
  have hBW1 : Below w.heap.size w W1 := by rw [hW1]; exact belo
  have qW1_0 : W1.cell? ⟨w.heap.size, 0, none⟩ = some (Value.slice A a.length c) := by rw [hW1]; simp [go_sem]
  have fW1_0 : W1.frozen? ⟨w.heap.size, 0, none⟩ = false := by rw [hW1]; simp [go_sem]
  have qW1_1 : W1.cell? ⟨w.heap.size, 1, none⟩ = some (Value.bool s) := by rw [hW1]; simp [go_sem]
  have fW1_1 : W1.frozen? ⟨w.heap.size, 1, none⟩ = false := by rw [hW1]; simp [go_sem]
  have qW1_2 : W1.cell? ⟨w.heap.size + 1, 0, none⟩ = some (Value.slice none 0 0) := by rw [hW1]; simp [go_sem]
  have fW1_2 : W1.frozen? ⟨w.heap.size + 1, 0, none⟩ = false := by rw [hW1]; simp [go_sem]
  have qW1_3 : W1.cell? ⟨w.heap.size + 1, 1, none⟩ = some (Value.bool false) := by rw [hW1]; simp [go_sem]
  have fW1_3 : W1.frozen? ⟨w.heap.size + 1, 1, none⟩ = false := by rw [hW1]; simp [go_sem]
  have zW1_0 : w.heap.size < W1.heap.size := by rw [hW1]; first | (simp; done) | (simp; omega)
  have zW1_1 : w.heap.size + 1 < W1.heap.size := by rw [hW1]; first | (simp; done) | (simp; omega)
  clear hW1
  refine region_anyT (S := fun wS => Below W1.heap.size W1 wS) (n := 7) kr (Below.refl _ _).drew (fun hS inv => ?_)
  refine anyT_take (i := 1) (oi := _) (v := Value.pointer (some ⟨w.heap.size, 0, none⟩)) rfl kr kr kr (by decide) (by decide) kr kr inv (fun _ _ _ h => h) (Or.inl ⟨kr, ?_⟩) hS (fun inv => ?_)
  · intro wz hSw
    first | kernel_rfl | go_simp
  (try simp only [Act.put, q2, q3, q4, q5, q6, q7])
  refine anyT_take (i := 2) (oi := _) (v := Value.slice A a.length c) rfl kr kr kr (by decide) (by decide) kr kr inv (fun _ _ _ h => h) (Or.inl ⟨kr, ?_⟩) hS (fun inv => ?_)
  · intro wz hSw
    have hk0 := (hSw : Below _ _ _).cell (p := ⟨w.heap.size, 0, none⟩) as0; go_simp
  (try simp only [Act.put, q2, q3, q4, q5, q6, q7])
  refine anyT_take (i := 4) (oi := _) (v := Value.pointer (some ⟨w.heap.size, 1, none⟩)) rfl kr kr kr (by decide) (by decide) kr kr inv (fun _ _ _ h => h) (Or.inl ⟨kr, ?_⟩) hS (fun inv => ?_)
  · intro wz hSw
    first | kernel_rfl | go_simp
  (try simp only [Act.put, q2, q3, q4, q5, q6, q7])
  refine anyT_take (i := 5) (oi := _) (v := Value.bool s) rfl kr kr kr (by decide) (by decide) kr kr inv (fun _ _ _ h => h) (Or.inl ⟨kr, ?_⟩) hS (fun inv => ?_)
  · intro wz hSw
    have hk0 := (hSw : Below _ _ _).cell (p := ⟨w.heap.size, 1, none⟩) as0; go_simp
  (try simp only [Act.put, q2, q3, q4, q5, q6, q7])
  refine anyT_ready (rs := [0]) kr (by simp) ?_
  refine ReadyT.head (o := _) rfl (by decide) kr inv (fun K hK => ?_) ReadyT.nil
  go_simp
  refine hK.out _ _ ?_ (fun hS inv => ?_)
  · exact (by first | exact (hS : Below W1.heap.size W1 _).alloc (Below.size hS) _ | exact Below.drew (Below.alloc (show Below W1.heap.size W1 W1 from hS) (Below.size hS) _))
  clear hK K
  (try simp only [Act.put, q2, q3, q4, q5, q6, q7])
  generalize hw1 : World.alloc W1 _ = w1 at *
  have hb : Below W1.heap.size W1 w1 := by rw [← hw1]; exact (Below.refl _ _).alloc (Nat.le_refl _) _
  have ho := hide (show w1.ownsRow W1.heap.size 65 1 (.slice (some ⟨W1.heap.size, 0, none⟩) 0 0) 0 (([] : List Int).map (Value.int .u8)) by rw [← hw1]; exact owq_empty W1 W1.heap.size (Nat.le_refl _))
  clear hw1
  have hB1 : Below w.heap.size w w1 := Below.trans belo (hb.mono as4)
  obtain ⟨kc1, kf1⟩ := bcell hb
  have hz1 := hb.size
  (try simp at hz1)
  have n1_0 : w.heap.size < w1.heap.size := by omega
  have n1_1 : w.heap.size + 1 < w1.heap.size := by omega
  have m1_0 : w1.cell? ⟨w.heap.size, 0, none⟩ = some (.slice A a.length c) := (kc1 _ _ as0).trans as1
  have v1_0 : w1.frozen? ⟨w.heap.size, 0, none⟩ = false := (kf1 _ _ as0).trans as1
  have m1_1 : w1.cell? ⟨w.heap.size, 1, none⟩ = some (.bool s) := (kc1 _ _ as0).trans as1
  have v1_1 : w1.frozen? ⟨w.heap.size, 1, none⟩ = false := (kf1 _ _ as0).trans as1
  have m1_2 : w1.cell? ⟨w.heap.size + 1, 0, none⟩ = some (.slice none 0 0) := (kc1 _ _ as0).trans as1
  have v1_2 : w1.frozen? ⟨w.heap.size + 1, 0, none⟩ = false := (kf1 _ _ as0).trans as1
  have m1_3 : w1.cell? ⟨w.heap.size + 1, 1, none⟩ = some (.bool false) := (kc1 _ _ as0).trans as1
  have v1_3 : w1.frozen? ⟨w.heap.size + 1, 1, none⟩ = false := (kf1 _ _ as0).trans as1
  clear kc1 kf1
  clear hb
  refine anyT_ready (rs := [3]) kr (by simp) ?_
  refine ReadyT.head (o := _) rfl (by decide) kr inv (fun K hK => ?_) ReadyT.nil
  refine step_append_q (by rfl) _ _ (by rfl) W1.heap.size _ _ [] kr ho.out A a.length c a kr rfl (HA.out.below belo) (by simp; exact Nat.le_trans LA.out (by decide)) (by first | omega | (simp; omega) | (simp; done)) ?_
  intro v' w2 hown hb
  obtain ⟨A2, c2, e, k1, k2, O2⟩ := owq_open hown
  obtain ⟨l2, E2⟩ : ∃ z, z = [] ++ a := ⟨_, rfl⟩
  rw [← E2] at e k1 O2
  subst e
  have C2 := hide (And.intro k1 k2)
  replace E2 := hide E2
  replace O2 := hide O2
  clear k1 k2 hown
  refine hK.out _ _ ?_ (fun hS inv => ?_)
  · exact (hS : Below W1.heap.size W1 _).trans (hb.mono (by first | omega | (simp; omega) | (simp; done)))
  clear hK K
  (try simp only [Act.put, q2, q3, q4, q5, q6, q7])
  replace O2 := hide (O2.out.base (show w.heap.size + 2 ≤ _ by first | omega | (simp; omega) | (simp; done)))
  have hB2 : Below w.heap.size w w2 := Below.trans belo (hb.mono as4)
  obtain ⟨kc2, kf2⟩ := bcellW hb
  have hz2 := hb.size
  (try simp at hz2)
  have n2_0 : w.heap.size < w2.heap.size := by omega
  have n2_1 : w.heap.size + 1 < w2.heap.size := by omega
  have m2_0 : w2.cell? ⟨w.heap.size, 0, none⟩ = some (.slice A a.length c) := (kc2 _ _ as0).trans as1
  have v2_0 : w2.frozen? ⟨w.heap.size, 0, none⟩ = false := (kf2 _ _ as0).trans as1
  have m2_1 : w2.cell? ⟨w.heap.size, 1, none⟩ = some (.bool s) := (kc2 _ _ as0).trans as1
  have v2_1 : w2.frozen? ⟨w.heap.size, 1, none⟩ = false := (kf2 _ _ as0).trans as1
  have m2_2 : w2.cell? ⟨w.heap.size + 1, 0, none⟩ = some (.slice none 0 0) := (kc2 _ _ as0).trans as1
  have v2_2 : w2.frozen? ⟨w.heap.size + 1, 0, none⟩ = false := (kf2 _ _ as0).trans as1
  have m2_3 : w2.cell? ⟨w.heap.size + 1, 1, none⟩ = some (.bool false) := (kc2 _ _ as0).trans as1
  have v2_3 : w2.frozen? ⟨w.heap.size + 1, 1, none⟩ = false := (kf2 _ _ as0).trans as1
  clear kc2 kf2
  clear hb
  refine anyT_take (i := 6) (oi := _) (v := Value.agg #[Value.slice A2 l2.length c2, Value.bool s]) rfl kr kr kr (by decide) (by decide) kr kr inv (fun _ _ _ h => h) (Or.inl ⟨kr, ?_⟩) hS (fun inv => ?_)
  · intro wz hSw
    first | kernel_rfl | go_simp
  (try simp only [Act.put, q2, q3, q4, q5, q6, q7])
  refine anyT_ready (rs := [7]) kr (by simp) ?_
  refine ReadyT.tail (o := _) rfl (by decide) (fun K hK => ?_)
  go_simp
  refine hK.out _ _ ?_
  clear hK K
  (try simp only [Act.put, q2, q3, q4, q5, q6, q7])
  refine anyT_done kr ?_ _
  go_wp2
  refine bodyPost_ret (v := .agg #[.slice A2 l2.length c2, .bool s]) (by simp [results, Tryz.results9, go_sem, *]) rfl ?_
  exact ⟨l2, s, A2, c2, hide (by rw [E2.out]; simp), rfl, C2, hide (OwQ.base (B := w.heap.size + 2) (owT O2) (by omega)), belo⟩
theorem vfrom_ok (z : Int) (k : Nat) (s : Bool) (w : World) (h1 : -9223372036854775808 ≤ z) (h2 : z ≤ 9223372036854775807) (g1 : 1 ≤ k) (g2 : k ≤ 128) :
    Calls Tryz.prog 19 #[.int .i64 z, .int .i64 k, .bool s] w (RetE 0 ⟨fb (vz k z), s⟩ w) := by
  have h := vFromInt_any z k s w h1 h2
  rw [if_pos (by omega), Int.toNat_natCast] at h
  exact h
set_option maxHeartbeats 1000000 in
theorem vint4_any (z : Int) (s : Bool) (w : World) (h1 : -9223372036854775808 ≤ z) (h2 : z ≤ 9223372036854775807) :
    Calls Tryz.prog 64 #[.int .i64 z, .bool s] w (RetC (· = ⟨fb (vz 4 z), s⟩) w) := by
  have hcall := hide fun W => vfrom_ok z 4 s W h1 h2 (by decide) (by decide)
  go_enter Tryz.func64, Tryz.ntmps64
  go_wp2_with fail
  refine (hcall.out _).mono ?_
  rintro e w1 ⟨l1, s1, A1, c1, E1, rfl, C1, O1, hb⟩
  replace O1 := hide (O1.out.base (show w.heap.size + 1 ≤ _ by first | omega | (simp; omega) | (simp; done)))
  have hB1 : Below w.heap.size w w1 := Below.trans belo (hb.mono as4)
  obtain ⟨kc1, kf1⟩ := bcell hb
  have hz1 := hb.size
  (try simp at hz1)
  have n1_0 : w.heap.size < w1.heap.size := by omega
  have r1_0 : w1.cell? ⟨w.heap.size, 0, none⟩ = some (.slice none 0 0) := (kc1 _ _ as0).trans as2
  have g1_0 : w1.frozen? ⟨w.heap.size, 0, none⟩ = false := (kf1 _ _ as0).trans as2
  have r1_1 : w1.cell? ⟨w.heap.size, 1, none⟩ = some (.bool false) := (kc1 _ _ as0).trans as2
  have g1_1 : w1.frozen? ⟨w.heap.size, 1, none⟩ = false := (kf1 _ _ as0).trans as2
  clear hb
  have HE := hide (show (⟨l1, s1⟩ : Vc) = ⟨fb (vz 4 z), s⟩ by have h := E1.out; rw [if_pos rfl] at h; exact h)
  go_wp2
  refine bodyPost_ret (v := .agg #[.slice A1 l1.length c1, .bool s1]) (by simp [results, Tryz.results64, go_sem, *]) rfl ?_
  exact ⟨l1, s1, A1, c1, HE, rfl, C1, hide (OwQ.base (B := w.heap.size + 1) (owT O1) (by omega)), belo⟩
end
section
open Go.RowKit
set_option maxRecDepth 100000
set_option linter.unusedSimpArgs false
set_option linter.unusedVariables false
structure Box (N : Nat) (A : Option Addr) (n c : Nat) (s : Bool) (w : World) : Prop where
  lt : N < w.heap.size
  c0 : w.cell? ⟨N, 0, none⟩ = some (.slice A n c)
  c1 : w.cell? ⟨N, 1, none⟩ = some (.bool s)
  f0 : w.frozen? ⟨N, 0, none⟩ = false
  f1 : w.frozen? ⟨N, 1, none⟩ = false
theorem Box.kept {N n c : Nat} {A : Option Addr} {s : Bool} {w w' : World} (h : Box N A n c s w) (hb : Below w.heap.size w w') : Box N A n c s w' :=
  ⟨Nat.lt_of_lt_of_le h.lt hb.size, (hb.cell (p := ⟨N, 0, none⟩) h.lt).trans h.c0, (hb.cell (p := ⟨N, 1, none⟩) h.lt).trans h.c1, (hb.frozen (p := ⟨N, 0, none⟩) h.lt).trans h.f0, (hb.frozen (p := ⟨N, 1, none⟩) h.lt).trans h.f1⟩
theorem Box.boxed (w : World) (A : Option Addr) (n c : Nat) (s : Bool) : Box w.heap.size A n c s (w.alloc (.cells #[.slice A n c, .bool s] 24)) :=
  ⟨by simp, by simp [go_sem], by simp [go_sem], by simp [go_sem], by simp [go_sem]⟩
theorem Box.made (w : World) (A : Option Addr) (n c : Nat) (s : Bool) : Box w.heap.size A n c s (((w.alloc (.cells #[.slice none 0 0, .bool false] 24)).setCell ⟨w.heap.size, 0, none⟩ (.slice A n c)).setCell ⟨w.heap.size, 1, none⟩ (.bool s)) := by
  have h := Box.boxed w none 0 0 false
  exact ⟨by simp, cset_ne (by simp) (cset_eq h.c0), cset_eq (cset_ne (by simp) h.c1), fset (fset h.f0), fset (fset h.f1)⟩
def gdB (l : List Int) : Bool := decide (0 < l.length) && (decide (l.length ≤ 128) && l.all fun x => decide (0 ≤ x) && decide (x ≤ 3))
theorem gd_of {l : List Int} (h : gdB l = true) : Gd l := by
  unfold gdB at h
  rw [Bool.and_eq_true, Bool.and_eq_true, decide_eq_true_eq, decide_eq_true_eq, List.all_eq_true] at h
  refine ⟨h.1, h.2.1, fun i => ?_⟩
  rcases Nat.lt_or_ge i l.length with hi | hi
  · have := h.2.2 _ (List.getElem_mem hi)
    rw [Bool.and_eq_true, decide_eq_true_eq, decide_eq_true_eq] at this
    rw [qt_get hi]; exact this
  · rw [qt_ge hi]; decide
theorem ret_e0 {l : List Int} {s : Bool} {v : Vc} (h : if (0 : Int) = 0 then (⟨l, s⟩ : Vc) = v else l = [] ∧ s = false) : (⟨l, s⟩ : Vc) = v := by rw [if_pos rfl] at h; exact h
theorem rsame_yes (A B : Option Addr) (a b : List Int) (c d : Nat) (s t : Bool) (w : World) (ha : a.length ≤ 4096) (hb : b.length ≤ 4096) (hA : RQ w A a) (hB : RQ w B b) (h : (⟨a, s⟩ : Vc) = ⟨b, t⟩) :
    Calls Tryz.prog 11 #[.agg #[.slice A a.length c, .bool s], .agg #[.slice B b.length d, .bool t]] w (Mk (.bool true) w) := by
  have h1 := rsame_any' A B a b c d s t w ha hb hA hB
  rw [(sm_iff _ _).2 h] at h1
  exact h1
theorem vfrom_q (z : Int) (k : Nat) (s : Bool) (w : World) (h1 : -9223372036854775808 ≤ z) (h2 : z ≤ 9223372036854775807) (g1 : 1 ≤ k) (g2 : k ≤ 128) :
    Calls Tryz.prog 19 #[.int .i64 z, .int .i64 k, .bool s] w (RetE 0 ⟨fb (vz k z), s⟩ w) := vfrom_ok z k s w h1 h2 g1 g2
theorem vint_val (z : Int) (A : Option Addr) (a : List Int) (c : Nat) (s : Bool) (w : World) (ha : a.length ≤ 4096) (hca : Hid (a.length ≤ c ∧ c ≤ maxLen)) (hA : RQ w A a) (ya : By a) (hk : kn (cnt ⟨a, s⟩).b = true) (hz : sv (nx (cnt ⟨a, s⟩).b (cnt ⟨a, s⟩).s) = z) (h1 : -9223372036854775808 ≤ z) (h2 : z ≤ 9223372036854775807) :
    Calls Tryz.prog 36 #[.agg #[.slice A a.length c, .bool s]] w (Mk (.tuple #[.int .i64 z, .bool true]) w) :=
  (vInt_any A a c s w ha hca hA ya).mono fun e w' h => ⟨IntV_val h.1 hk hz h1 h2, h.2⟩
theorem vConcat_e0 (g c : Nat) (vs : List Va) (w : World) (hg : g < w.heap.size) (h0 : 0 < vs.length) (hn : vs.length ≤ 4096) (hv : Vrow w g vs) (he : cte (vcs vs) = 0) :
    Calls Tryz.prog 25 #[.slice (some ⟨g, 0, none⟩) vs.length c] w (RetE 0 ⟨cats (vcs vs), false⟩ w) := by
  have h := vConcat_any g c vs w hg h0 hn hv
  rw [he] at h
  exact h
theorem vSlice_e0 (hi lo : Int) (A : Option Addr) (a : List Int) (c : Nat) (s : Bool) (w : World) (ha : a.length ≤ 4096) (hca : Hid (a.length ≤ c ∧ c ≤ maxLen)) (hA : RQ w A a) (ya : By a) (b1 : -9223372036854775808 ≤ lo) (b2 : hi ≤ 9223372036854775807) (b3 : -9223372036854775808 ≤ hi) (b4 : lo ≤ 9223372036854775807) (he : spn hi lo = 0) :
    Calls Tryz.prog 29 #[.agg #[.slice A a.length c, .bool s], .int .i64 hi, .int .i64 lo] w (RetE 0 ⟨wdw (cnt ⟨a, s⟩).b lo (hi - lo + 1).toNat 2, false⟩ w) := by
  have h := vSlice_any hi lo A a c s w ha hca hA ya b1 b2 b3 b4
  rw [he] at h
  exact h
end
section
open Go Go.RowKit
set_option maxRecDepth 100000
set_option linter.unusedSimpArgs false
set_option linter.unusedVariables false
abbrev vagg (A : Option Addr) (m c : Nat) (s : Bool) : Value := .agg #[.slice A m c, .bool s]
section
variable {Q : Exit → Act → World → Prop} {ops : Array Oper} {ρ : Operand → Value} {o : Oper} {x y : Operand} {w : World} {A : Option Addr} {N m c n d : Nat} {s : Bool}
theorem run_ldvec (ho : o.op = .load 24 x) (hx : ρ x = .pointer (some ⟨N, 0, none⟩)) (B : Box N A m c s w) : (execOp ρ o).run Tryz.prog w = .ok (.value (vagg A m c s)) w := by
  have h0 := B.c0
  have h1 := B.c1
  unfold execOp
  rw [ho]
  simp only [hx]
  simp [go_sem, h0, h1]
theorem run_boxvec (ho : o.op = .box 24 x) (hx : ρ x = vagg A m c s) : (execOp ρ o).run Tryz.prog w = .ok (.value (.pointer (some ⟨w.heap.size, 0, none⟩))) (w.alloc (.cells #[.slice A m c, .bool s] 24)) := by
  unfold execOp
  rw [ho]
  simp only [hx]
  simp [go_sem]
theorem run_alvec (ho : o.op = .alloc 24) : (execOp ρ o).run Tryz.prog w = .ok (.value (.pointer (some ⟨w.heap.size, 0, none⟩))) (w.alloc (.cells #[.slice none 0 0, .bool false] 24)) := by
  unfold execOp
  rw [ho]
  simp [go_sem]
theorem run_stnew (ho : o.op = .store 24 x y) (hx : ρ x = .pointer (some ⟨w.heap.size, 0, none⟩)) (hy : ρ y = vagg A m c s) :
    (execOp ρ o).run Tryz.prog (w.alloc (.cells #[.slice none 0 0, .bool false] 24)) = .ok .skip (w.alloc (.cells #[.slice A m c, .bool s] 24)) := by
  unfold execOp
  rw [ho]
  simp only [hx, hy]
  simp [go_sem]
end
section
variable {Q : Exit → Act → World → Prop} {ops : Array Oper} {o o2 : Oper} {rest : List Oper} {x y : Operand} {w W : World} {A : Option Addr} {N m c n d : Nat} {s : Bool} {E : Env}
theorem wpl_ldvec (B : Box N A m c s w) (hd : o.dst = some d) (hw : wnt ops n E o = true) (ho : o.op = .load 24 x) (hx : evl n E x = .pointer (some ⟨N, 0, none⟩))
    (h : WL Tryz.prog ops Q rest n ((d, vagg A m c s) :: E) w) : WL Tryz.prog ops Q (o :: rest) n E w := wpl_val hd hw (run_ldvec ho hx B) h
theorem wpl_boxvec (hd : o.dst = some d) (hw : wnt ops n E o = true) (ho : o.op = .box 24 x) (hx : evl n E x = vagg A m c s)
    (h : ∀ (V : World) (N : Nat), Box N A m c s V → w.heap.size ≤ N → Below w.heap.size w V → WL Tryz.prog ops Q rest n ((d, .pointer (some ⟨N, 0, none⟩)) :: E) V) : WL Tryz.prog ops Q (o :: rest) n E w :=
  wpl_val hd hw (run_boxvec ho hx) (h _ _ (Box.boxed w A m c s) (Nat.le_refl _) ((Below.refl _ _).alloc (Nat.le_refl _) _))
theorem wpl_made (hd : o.dst = some d) (hg : o.guard = none) (ho : o.op = .alloc 24) (hd2 : o2.dst = none) (hg2 : o2.guard = none) (ho2 : o2.op = .store 24 x y)
    (hx : ∀ v : Value, evl n ((d, v) :: E) x = v) (hy : ∀ v : Value, evl n ((d, v) :: E) y = vagg A m c s)
    (h : ∀ (V : World) (N : Nat), Box N A m c s V → w.heap.size ≤ N → Below w.heap.size w V → WL Tryz.prog ops Q rest n ((d, .pointer (some ⟨N, 0, none⟩)) :: E) V) : WL Tryz.prog ops Q (o :: o2 :: rest) n E w :=
  wpl_val hd (by unfold wnt; rw [hg]) (run_alvec ho) (wpl_none hd2 (by unfold wnt; rw [hg2]) (run_stnew ho2 (hx _) (hy _)) (h _ _ (Box.boxed w A m c s) (Nat.le_refl _) ((Below.refl _ _).alloc (Nat.le_refl _) _)))
theorem anyR_ldvec {fuel k mk i m' q : Nat} (B : Box N A m c s W) (F : Rg ops q) (hQ : ∀ c a d v w, Q (.panic c) (Act.put a (some d) v) w → Q (.panic c) a w) (hi : ops[i]? = some o) (hd : o.dst = some d) (hin : Nat.blt i q = true) (hf : freeB ops ops.size mk i o = true) (hr : rdyB ops ops.size mk i = true)
    (hw : wnt ops k E o = true) (hm : Nat.lor mk (Nat.shiftLeft 1 i) = m') (ho : o.op = .load 24 x) (hx : evl k E x = .pointer (some ⟨N, 0, none⟩))
    (h : anyR Tryz.prog ops Q W q fuel m' k ((d, vagg A m c s) :: E) w) : anyR Tryz.prog ops Q W q (fuel + 1) mk k E w :=
  anyR_val F hQ hi hd hin hf hr hw hm (fun w' hb => run_ldvec ho hx (B.kept hb)) h
theorem wpl_bs2 {A0 A1 : Option Addr} {l0 l1 : List Int} {c0 c1 : Nat} {s0 s1 : Bool} {x0 x1 : Operand} (hd : o.dst = some d) (hw : wnt ops n E o = true) (ho : o.op = .buildSlice 51 2 #[(0, x0), (1, x1)]) (h0 : evl n E x0 = vagg A0 l0.length c0 s0) (h1 : evl n E x1 = vagg A1 l1.length c1 s1)
    (o0 : RQ w A0 l0) (y0 : By l0) (k0 : l0.length ≤ 4096) (p0 : Hid (l0.length ≤ c0 ∧ c0 ≤ maxLen)) (o1 : RQ w A1 l1) (y1 : By l1) (k1 : l1.length ≤ 4096) (p1 : Hid (l1.length ≤ c1 ∧ c1 ≤ maxLen))
    (h : ∀ (V : World) (N : Nat), Vrow V N [(A0, l0, c0, s0), (A1, l1, c1, s1)] → N < V.heap.size → w.heap.size ≤ N → Below w.heap.size w V → WL Tryz.prog ops Q rest n ((d, .slice (some ⟨N, 0, none⟩) 2 2) :: E) V) : WL Tryz.prog ops Q (o :: rest) n E w := by
  have hb : Below w.heap.size w (w.alloc (.cells #[.slice A0 l0.length c0, .bool s0, .slice A1 l1.length c1, .bool s1] 24)) := (Below.refl _ _).alloc (Nat.le_refl _) _
  refine wpl_val hd hw (w' := w.alloc (.cells #[.slice A0 l0.length c0, .bool s0, .slice A1 l1.length c1, .bool s1] 24)) (v := .slice (some ⟨w.heap.size, 0, none⟩) 2 2) ?_ (h _ _ ?_ (by simp) (Nat.le_refl _) hb)
  · unfold execOp
    rw [ho]
    simp [go_sem, h0, h1]
  · constructor
    · intro i h; rcases i with _ | _ | i <;> first | (simp [go_sem]; done) | exact absurd h (by simp)
    · intro i h; rcases i with _ | _ | i <;> first | (simp [go_sem]; done) | exact absurd h (by simp)
    · intro i h; rcases i with _ | _ | i <;> first | (exact RQ.below (by assumption) hb) | exact absurd h (by simp)
    · intro i h; rcases i with _ | _ | i <;> first | assumption | exact absurd h (by simp)
    · intro i h; rcases i with _ | _ | i <;> first | assumption | exact absurd h (by simp)
    · intro i h; rcases i with _ | _ | i <;> first | assumption | exact absurd h (by simp)
end
section
variable {w : World} {N m c m2 c2 : Nat} {A A2 : Option Addr} {s s2 : Bool}
theorem Box.st (B : Box N A m c s w) : Box N A2 m2 c2 s2 ((w.setCell ⟨N, 0, none⟩ (.slice A2 m2 c2)).setCell ⟨N, 1, none⟩ (.bool s2)) :=
  ⟨by simpa using B.lt, cset_ne (by simp) (cset_eq B.c0), cset_eq (cset_ne (by simp) B.c1), fset (fset B.f0), fset (fset B.f1)⟩
theorem Box.st_ne {M mm cc : Nat} {AA : Option Addr} {ss : Bool} {u v : Value} (B : Box M AA mm cc ss w) (h : M ≠ N) : Box M AA mm cc ss ((w.setCell ⟨N, 0, none⟩ u).setCell ⟨N, 1, none⟩ v) :=
  ⟨by simpa using B.lt, cset_ne (by omega) (cset_ne (by omega) B.c0), cset_ne (by omega) (cset_ne (by omega) B.c1), fset (fset B.f0), fset (fset B.f1)⟩
theorem RQ.st {AA : Option Addr} {l : List Int} {u v : Value} (B : Box N A m c s w) (h : RQ w AA l) : RQ ((w.setCell ⟨N, 0, none⟩ u).setCell ⟨N, 1, none⟩ v) AA l := fun hn => by
  obtain ⟨ad, e, hlt, hc⟩ := h hn
  refine ⟨ad, e, by simpa using hlt, fun i hi => ?_⟩
  have h0 := hc i hi
  rw [World.cell?_setCell_other _ _ _ _ (fun k => by rw [← k, B.c1] at h0; cases h0), World.cell?_setCell_other _ _ _ _ (fun k => by rw [← k, B.c0] at h0; cases h0)]
  exact h0
theorem st_below {B0 : Nat} {u v : Value} (h : B0 ≤ N) : Below B0 w ((w.setCell ⟨N, 0, none⟩ u).setCell ⟨N, 1, none⟩ v) := ((Below.refl _ _).setCell h _).setCell h _
theorem run_stbox {ρ : Operand → Value} {o : Oper} {x y : Operand} (ho : o.op = .store 24 x y) (hx : ρ x = .pointer (some ⟨N, 0, none⟩)) (hy : ρ y = vagg A2 m2 c2 s2) (B : Box N A m c s w) :
    (execOp ρ o).run Tryz.prog w = .ok .skip ((w.setCell ⟨N, 0, none⟩ (.slice A2 m2 c2)).setCell ⟨N, 1, none⟩ (.bool s2)) := by
  have h0 := B.c0
  have h1 := B.c1
  have h2 := B.f0
  have h3 := B.f1
  unfold execOp
  rw [ho]
  simp only [hx, hy]
  simp [go_sem, h0, h1, h2, h3]
end
structure Std (N : Nat) (A : Option Addr) (m c : Nat) (s : Bool) (w V : World) : Prop where
  box : Box N A m c s V
  ne : ∀ {M mm cc : Nat} {AA : Option Addr} {ss : Bool}, Box M AA mm cc ss w → M ≠ N → Box M AA mm cc ss V
  rq : ∀ {AA : Option Addr} {l : List Int}, RQ w AA l → RQ V AA l
  bel : ∀ {B : Nat}, B ≤ N → Below B w V
section
variable {Q : Exit → Act → World → Prop} {ops : Array Oper} {o : Oper} {rest : List Oper} {x y : Operand} {w W : World} {A A2 : Option Addr} {N m c m2 c2 n : Nat} {s s2 : Bool} {E : Env}
theorem anyE_st {fuel k mk i m' q : Nat} (B : Box N A m c s w) (hi : ops[i]? = some o) (hd : o.dst = none) (ho' : onlyB ops ops.size mk i = true) (hw : wnt ops k E o = true) (hm : Nat.lor mk (Nat.shiftLeft 1 i) = m') (hin : Nat.ble q i = true)
    (ho : o.op = .store 24 x y) (hx : evl k E x = .pointer (some ⟨N, 0, none⟩)) (hy : evl k E y = vagg A2 m2 c2 s2)
    (h : ∀ V : World, Std N A2 m2 c2 s2 w V → anyE Tryz.prog ops Q W q fuel m' k E V) : anyE Tryz.prog ops Q W q (fuel + 1) mk k E w :=
  anyE_none hi hd ho' hw hm hin (run_stbox ho hx hy B) (h _ ⟨B.st, fun b hne => b.st_ne hne, fun r => r.st B, fun hb => st_below hb⟩)
theorem stepR_al {fuel k mk i m' q d : Nat} (hi : ops[i]? = some o) (hd : o.dst = some d) (hin : Nat.blt i q = true) (hw : wnt ops k E o = true) (hm : Nat.lor mk (Nat.shiftLeft 1 i) = m') (ho : o.op = .alloc 24)
    (h : ∀ (V : World) (N : Nat), Box N none 0 0 false V → w.heap.size ≤ N → Below w.heap.size w V → anyR Tryz.prog ops Q W q fuel m' k ((d, .pointer (some ⟨N, 0, none⟩)) :: E) V) : StepR Tryz.prog ops Q W q fuel mk k E w i :=
  have hb : Below w.heap.size w (w.alloc (.cells #[.slice none 0 0, .bool false] 24)) := (Below.refl _ _).alloc (Nat.le_refl _) _
  stepR_val hi hd hin hw hm (run_alvec ho) hb (h _ _ (Box.boxed w none 0 0 false) (Nat.le_refl _) hb)
end
section
variable {Q : Exit → Act → World → Prop} {ops : Array Oper} {o : Oper} {rest : List Oper} {w : World} {n d : Nat} {E : Env}
theorem wpl_bsL1 {A0 : Option Addr} {m0 c0 : Nat} {s0 : Bool} {x0 : Operand} (hd : o.dst = some d) (hw : wnt ops n E o = true) (ho : o.op = .buildSlice 51 1 #[(0, x0)]) (h0 : evl n E x0 = vagg A0 m0 c0 s0)
    (h : ∀ (V : World) (N : Nat), Vls V N [(A0, m0, c0, s0)] → Below w.heap.size w V → WL Tryz.prog ops Q rest n ((d, .slice (some ⟨N, 0, none⟩) 1 1) :: E) V) : WL Tryz.prog ops Q (o :: rest) n E w := by
  have hb : Below w.heap.size w (w.alloc (.cells #[.slice A0 m0 c0, .bool s0] 24)) := (Below.refl _ _).alloc (Nat.le_refl _) _
  refine wpl_val hd hw (w' := w.alloc (.cells #[.slice A0 m0 c0, .bool s0] 24)) (v := .slice (some ⟨w.heap.size, 0, none⟩) 1 1) ?_ (h _ _ ?_ hb)
  · unfold execOp
    rw [ho]
    simp [go_sem, h0]
  · intro i h
    rcases i with _ | i <;> first | (exfalso; simp only [List.length_cons, List.length_nil] at h; omega) | (refine ⟨?_, ?_⟩ <;> simp [go_sem])
theorem wpl_bsL2 {A0 A1 : Option Addr} {m0 m1 c0 c1 : Nat} {s0 s1 : Bool} {x0 x1 : Operand} (hd : o.dst = some d) (hw : wnt ops n E o = true) (ho : o.op = .buildSlice 51 2 #[(0, x0), (1, x1)]) (h0 : evl n E x0 = vagg A0 m0 c0 s0) (h1 : evl n E x1 = vagg A1 m1 c1 s1)
    (h : ∀ (V : World) (N : Nat), Vls V N [(A0, m0, c0, s0), (A1, m1, c1, s1)] → Below w.heap.size w V → WL Tryz.prog ops Q rest n ((d, .slice (some ⟨N, 0, none⟩) 2 2) :: E) V) : WL Tryz.prog ops Q (o :: rest) n E w := by
  have hb : Below w.heap.size w (w.alloc (.cells #[.slice A0 m0 c0, .bool s0, .slice A1 m1 c1, .bool s1] 24)) := (Below.refl _ _).alloc (Nat.le_refl _) _
  refine wpl_val hd hw (w' := w.alloc (.cells #[.slice A0 m0 c0, .bool s0, .slice A1 m1 c1, .bool s1] 24)) (v := .slice (some ⟨w.heap.size, 0, none⟩) 2 2) ?_ (h _ _ ?_ hb)
  · unfold execOp
    rw [ho]
    simp [go_sem, h0, h1]
  · intro i h
    rcases i with _ | _ | i <;> first | (exfalso; simp only [List.length_cons, List.length_nil] at h; omega) | (refine ⟨?_, ?_⟩ <;> simp [go_sem])
end
end
section
open Go Go.RowKit
set_option maxRecDepth 100000
set_option linter.unusedSimpArgs false
set_option linter.unusedVariables false
def twoT : List (Int × Nat) := [(37, 40), (38, 41), (39, 42), (40, 43), (21, 37), (22, 38), (23, 39), (24, 44), (25, 45), (26, 63), (27, 51), (28, 52), (31, 47), (32, 48), (33, 49), (34, 50), (35, 54), (36, 55), (41, 58), (42, 81), (43, 82), (44, 59), (29, 53), (30, 83)]
structure Two (N : Nat) (w : World) : Prop where
  lt : N < w.heap.size
  c0 : ∀ k (h : k < twoT.length), w.cell? ⟨N, k * 2, none⟩ = some (.int .u8 twoT[k].1)
  c1 : ∀ k (h : k < twoT.length), w.cell? ⟨N, k * 2 + 1, none⟩ = some (.func (.func twoT[k].2) #[] #[])
theorem Two.kept {N : Nat} {w w' : World} (h : Two N w) (hb : Below w.heap.size w w') : Two N w' :=
  ⟨Nat.lt_of_lt_of_le h.lt hb.size, fun k hk => (hb.cell (p := ⟨N, k * 2, none⟩) h.lt).trans (h.c0 k hk), fun k hk => (hb.cell (p := ⟨N, k * 2 + 1, none⟩) h.lt).trans (h.c1 k hk)⟩
structure Bx2 (N : Nat) (u v : Value) (w : World) : Prop where
  lt : N < w.heap.size
  c0 : w.cell? ⟨N, 0, none⟩ = some u
  c1 : w.cell? ⟨N, 1, none⟩ = some v
theorem Bx2.kept {N : Nat} {u v : Value} {w w' : World} (h : Bx2 N u v w) (hb : Below w.heap.size w w') : Bx2 N u v w' :=
  ⟨Nat.lt_of_lt_of_le h.lt hb.size, (hb.cell (p := ⟨N, 0, none⟩) h.lt).trans h.c0, (hb.cell (p := ⟨N, 1, none⟩) h.lt).trans h.c1⟩
section
variable {Q : Exit → Act → World → Prop} {ops : Array Oper} {o o2 : Oper} {rest : List Oper} {x y : Operand} {w W : World} {N n d k op F : Nat} {E : Env} {z : Int} {A : Option Addr} {m c : Nat} {s : Bool}
theorem run_ldtwo {ρ : Operand → Value} (ho : o.op = .load 39 x) (hx : ρ x = .pointer (some ⟨N, k * 2, none⟩)) (T : Two N w) (hk : k < twoT.length) :
    (execOp ρ o).run Tryz.prog w = .ok (.value (.agg #[.int .u8 twoT[k].1, .func (.func twoT[k].2) #[] #[]])) w := by
  have h0 := T.c0 k hk
  have h1 := T.c1 k hk
  unfold execOp
  rw [ho]
  simp only [hx]
  simp [go_sem, h0, h1]
theorem run_altwo {ρ : Operand → Value} (ho : o.op = .alloc 39) : (execOp ρ o).run Tryz.prog w = .ok (.value (.pointer (some ⟨w.heap.size, 0, none⟩))) (w.alloc (.cells #[.int .u8 0, .nilFunc] 39)) := by
  unfold execOp
  rw [ho]
  simp [go_sem]
theorem run_sttwo {ρ : Operand → Value} (ho : o.op = .store 39 x y) (hx : ρ x = .pointer (some ⟨w.heap.size, 0, none⟩)) (hy : ρ y = .agg #[.int .u8 z, .func (.func F) #[] #[]]) :
    (execOp ρ o).run Tryz.prog (w.alloc (.cells #[.int .u8 0, .nilFunc] 39)) = .ok .skip (w.alloc (.cells #[.int .u8 z, .func (.func F) #[] #[]] 39)) := by
  unfold execOp
  rw [ho]
  simp only [hx, hy]
  simp [go_sem]
theorem wpl_ldtwo (T : Two N w) (k : Nat) (hk : k < twoT.length) (hd : o.dst = some d) (hw : wnt ops n E o = true) (ho : o.op = .load 39 x) (hx : evl n E x = .pointer (some ⟨N, k * 2, none⟩))
    (h : WL Tryz.prog ops Q rest n ((d, .agg #[.int .u8 twoT[k].1, .func (.func twoT[k].2) #[] #[]]) :: E) w) : WL Tryz.prog ops Q (o :: rest) n E w := wpl_val hd hw (run_ldtwo ho hx T hk) h
theorem wpl_made2 (z : Int) (F : Nat) (hd : o.dst = some d) (hg : o.guard = none) (ho : o.op = .alloc 39) (hd2 : o2.dst = none) (hg2 : o2.guard = none) (ho2 : o2.op = .store 39 x y)
    (hx : ∀ v : Value, evl n ((d, v) :: E) x = v) (hy : ∀ p : Value, evl n ((d, p) :: E) y = .agg #[.int .u8 z, .func (.func F) #[] #[]])
    (h : ∀ (V : World) (N : Nat), Bx2 N (.int .u8 z) (.func (.func F) #[] #[]) V → Below w.heap.size w V → WL Tryz.prog ops Q rest n ((d, .pointer (some ⟨N, 0, none⟩)) :: E) V) : WL Tryz.prog ops Q (o :: o2 :: rest) n E w :=
  wpl_val hd (by unfold wnt; rw [hg]) (run_altwo ho) (wpl_none hd2 (by unfold wnt; rw [hg2]) (run_sttwo ho2 (hx _) (hy _)) (h _ w.heap.size ⟨by simp, by simp [go_sem], by simp [go_sem]⟩ ((Below.refl _ _).alloc (Nat.le_refl _) _)))
theorem run_ldsl {ρ : Operand → Value} (ho : o.op = .load 22 x) (hx : ρ x = .pointer (some ⟨N, 0, none⟩)) (B : Box N A m c s w) : (execOp ρ o).run Tryz.prog w = .ok (.value (.slice A m c)) w := by
  have h0 := B.c0
  unfold execOp
  rw [ho]
  simp only [hx]
  simp [go_sem, h0]
theorem wpl_ldsl (B : Box N A m c s w) (hd : o.dst = some d) (hw : wnt ops n E o = true) (ho : o.op = .load 22 x) (hx : evl n E x = .pointer (some ⟨N, 0, none⟩))
    (h : WL Tryz.prog ops Q rest n ((d, .slice A m c) :: E) w) : WL Tryz.prog ops Q (o :: rest) n E w := wpl_val hd hw (run_ldsl ho hx B) h
theorem anyR_ldsl {fuel kk mk i m' q : Nat} (B : Box N A m c s W) (F : Rg ops q) (hQ : ∀ c a d v w, Q (.panic c) (Act.put a (some d) v) w → Q (.panic c) a w) (hi : ops[i]? = some o) (hd : o.dst = some d) (hin : Nat.blt i q = true) (hf : freeB ops ops.size mk i o = true) (hr : rdyB ops ops.size mk i = true)
    (hw : wnt ops kk E o = true) (hm : Nat.lor mk (Nat.shiftLeft 1 i) = m') (ho : o.op = .load 22 x) (hx : evl kk E x = .pointer (some ⟨N, 0, none⟩))
    (h : anyR Tryz.prog ops Q W q fuel m' kk ((d, .slice A m c) :: E) w) : anyR Tryz.prog ops Q W q (fuel + 1) mk kk E w :=
  anyR_val F hQ hi hd hin hf hr hw hm (fun w' hb => run_ldsl ho hx (B.kept hb)) h
end
set_option maxHeartbeats 1000000 in
theorem vtwos_any (w : World) : Calls Tryz.prog 14 #[] w fun e w' => ∃ N, e = .returned (.slice (some ⟨N, 0, none⟩) 24 24) ∧ Two N w' ∧ Below w.heap.size w w' := by
  go_enter Tryz.func14, Tryz.ntmps14
  go_wp2
  go_ret
  refine ⟨_, rfl, ⟨by simp, fun k hk => ?_, fun k hk => ?_⟩, (Below.refl _ _).alloc (Nat.le_refl _) _⟩
  all_goals
    have hk' : k < 24 := hk
    (repeat (rcases k with _ | k; · simp [go_sem, twoT]))
    omega
section
variable {P : Program} {Q : Exit → Act → World → Prop} {c : Code} {n : Nat} {E : Env} {w : World}
theorem loop_r (k : Nat) (h : Code.rounds P c Q k (sl n E) w) : (Code.loop c).wp P Q (sl n E) w := wp_loop_rounds k h
theorem round_s {k : Nat} (h : c.wp P (Exit.then (Code.rounds P c Q k) Q) (sl n E) w) : Code.rounds P c Q (k + 1) (sl n E) w := h
end
end
section
open Go Go.RowKit
set_option maxRecDepth 100000
set_option linter.unusedSimpArgs false
set_option linter.unusedVariables false
section
variable {P : Program} {Q : Exit → Act → World → Prop} {c : Code} {n : Nat}
theorem loop_inv {N : Nat} (I : Nat → Env → World → Prop) (hstep : ∀ k E w (next : Act → World → Prop), k ≤ N → I k E w → (∀ E' w', k < N → I (k + 1) E' w' → next (sl n E') w') → c.wp P (Exit.then next Q) (sl n E) w) :
    ∀ m k E w, k ≤ N → N < k + m → I k E w → Code.rounds P c Q m (sl n E) w
  | 0, k, E, w, h1, h2, _ => absurd h2 (by omega)
  | m + 1, k, E, w, h1, h2, hI => round_s (hstep k E w _ h1 hI fun E' w' hlt hI' => loop_inv I hstep m (k + 1) E' w' (by omega) (by omega) hI')
end
section
variable {P : Program} {ρ : Operand → Value} {o : Oper} {x y : Operand} {w : World} {t p : TypeId} {a b : Int}
theorem run_lss (ho : o.op = .binOp .lss t x y p) (hx : ρ x = .int .i64 a) (hy : ρ y = .int .i64 b) {q : Bool} (hc : decide (a < b) = q) : (execOp ρ o).run P w = .ok (.value (.bool q)) w := by
  subst hc
  unfold execOp
  rw [ho]
  simp only [hx, hy]
  rfl
theorem run_ix {A : Option Addr} {ad : Addr} {m cc k : Nat} (ho : o.op = .indexAddr 22 x y) (hx : ρ x = .slice A m cc) (hA : A = some ad) (hy : ρ y = .int .i64 k) (hk : k < m) : (execOp ρ o).run Tryz.prog w = .ok (.value (.pointer (some (ad.add k)))) w := by
  subst hA
  have h1 : (0 : Int) ≤ k := by omega
  have h2 : (k : Int) < m := by omega
  unfold execOp
  rw [ho]
  simp only [hx, hy]
  simp [go_sem, h1, h2, hk]
theorem run_ldbit {ad : Addr} {z : Int} (ho : o.op = .load 65 x) (hx : ρ x = .pointer (some ad)) (hc : w.cell? ad = some (.int .u8 z)) : (execOp ρ o).run Tryz.prog w = .ok (.value (.int .u8 z)) w := by
  unfold execOp
  rw [ho]
  simp only [hx]
  simp [go_sem, hc]
end
theorem RQ.bit {w : World} {A : Option Addr} {l : List Int} (h : RQ w A l) {i : Nat} (hi : i < l.length) : ∃ ad, A = some ad ∧ ∀ w', Below w.heap.size w w' → w'.cell? (ad.add i) = some (.int .u8 (qt l i)) := by
  obtain ⟨ad, e, hl, hc⟩ := h.at_ hi
  exact ⟨ad, e, fun w' hb => (hb.cell (p := ad.add i) (by rw [block_of_add]; exact hl)).trans hc⟩
end
section
open Go Go.RowKit
set_option maxRecDepth 100000
set_option linter.unusedSimpArgs false
set_option linter.unusedVariables false
section
variable {P : Program} {ops : Array Oper} {Q : Exit → Act → World → Prop} {S : World → Prop} {n fuel m k : Nat} {E : Env} {w : World}
def ganyE (P : Program) (ops : Array Oper) (Q : Exit → Act → World → Prop) (S : World → Prop) (n fuel m k : Nat) (E : Env) (w : World) : Prop :=
  anyT P .any ops Q S n fuel (lsm ops.size m) (sl k E) w
def ganyR (P : Program) (ops : Array Oper) (Q : Exit → Act → World → Prop) (S : World → Prop) (n fuel m k : Nat) (E : Env) (w : World) : Prop :=
  S w → HeadInv .any ops n (lsm ops.size m) → ganyE P ops Q S n fuel m k E w
theorem gregion {id n N k : Nat} {E : Env} {w : World} (S : World → Prop) (hm : P.follows .mixedOrders = true) (hN : ops.size = N) (ns : Region.noSelect ops = true) (sk : Region.sinkB .any ops n = true) (ch : Region.chainB .any ops n = true) (lt : Nat.blt n N = true) (hS : S w.drew)
    (hQ : ∀ c a d v w, Q (.panic c) (Act.put a (some d) v) w → Q (.panic c) a w) (h : Rg ops n → (∀ c a d v w, Q (.panic c) (Act.put a (some d) v) w → Q (.panic c) a w) → ganyR P ops Q S n N 0 k E w.drew) : (Code.region id ops true).wp P Q (sl k E) w := by
  refine region_anyT (S := S) (n := n) hm hS fun hS inv => ?_
  rw [lsm_zero] at inv ⊢
  subst hN
  exact h (Rg.of ns sk ch (Nat.le_of_ble_eq_true lt)) hQ hS inv
theorem gany_val {i d m' : Nat} {o : Oper} {v : Value} (F : Rg ops n) (hQ : ∀ c a d v w, Q (.panic c) (Act.put a (some d) v) w → Q (.panic c) a w) (hi : ops[i]? = some o) (hd : o.dst = some d) (hin : Nat.blt i n = true) (hf : freeB ops ops.size m i o = true) (hr : rdyB ops ops.size m i = true)
    (hw : wnt ops k E o = true) (hm : Nat.lor m (Nat.shiftLeft 1 i) = m') (hy : ∀ w', S w' → (execOp (evl k E) o).run P w' = .ok (.value v) w') (h : ganyR P ops Q S n fuel m' k ((d, v) :: E) w) : ganyR P ops Q S n (fuel + 1) m k E w := fun hS inv => by
  unfold ganyE
  have hin' : i < n := Nat.le_of_ble_eq_true hin
  refine anyT_takeR F hi hin' (freeB_spec hi hf) (by simpa using rdyB_iff.1 hr) inv (v := v) ?_ (Or.inl ⟨by rw [wanted_sl]; exact hw, fun w' hw' => by rw [eval_sl]; exact hy w' hw'⟩) hS fun inv' => ?_
  · intro c a w hq
    rw [hd] at hq
    exact hQ _ _ _ _ _ hq
  · rw [lsm_set, show m ||| 1 <<< i = m' from hm] at inv' ⊢
    rw [hd, put_sl]
    exact h hS inv'
def GStep (P : Program) (ops : Array Oper) (Q : Exit → Act → World → Prop) (S : World → Prop) (n fuel m k : Nat) (E : Env) (w : World) (i : Nat) : Prop :=
  S w → HeadInv .any ops n (lsm ops.size m) → i ∈ Region.ready .any ops (lsm ops.size m) → wpOp P ops Q i (fun a' w' => (i < n → S w') ∧ anyT P .any ops Q S n fuel ((lsm ops.size m).setIfInBounds i true) a' w') (sl k E) w
theorem gany_one {i : Nat} (hr : onlyB ops ops.size m i = true) (h : GStep P ops Q S n fuel m k E w i) : ganyR P ops Q S n (fuel + 1) m k E w := fun hS inv => by
  unfold ganyE
  obtain ⟨h1, h2⟩ := onlyB_spec hr
  refine ⟨fun h0 => (by rw [h0] at h1; cases h1), fun j hj => ?_⟩
  obtain rfl := h2 j hj
  exact h hS inv hj
theorem gstep_val {i d m' : Nat} {o : Oper} {v : Value} {w' : World} (hi : ops[i]? = some o) (hd : o.dst = some d) (hin : Nat.blt i n = true) (hw : wnt ops k E o = true) (hm : Nat.lor m (Nat.shiftLeft 1 i) = m')
    (hr : (execOp (evl k E) o).run P w = .ok (.value v) w') (hb : S w → S w') (h : ganyR P ops Q S n fuel m' k ((d, v) :: E) w') : GStep P ops Q S n fuel m k E w i := fun hS inv hj => by
  have hin' : i < n := Nat.le_of_ble_eq_true hin
  refine wpOp_step hi fun K hK => ?_
  rw [wanted_sl, hw, if_pos rfl]
  unfold Oper.wp
  rw [eval_sl, hr, Oper.upon_value]
  have hS' := hb hS
  refine hK _ _ ⟨fun _ => hS', ?_⟩
  have inv' := inv.set hj hin'
  rw [lsm_set, show m ||| 1 <<< i = m' from hm] at inv' ⊢
  rw [hd, put_sl]
  exact h hS' inv'
theorem gany_e (h : ganyE P ops Q S n fuel m k E w) : ganyR P ops Q S n fuel m k E w := fun _ _ => h
theorem gany_none {i m' : Nat} {o : Oper} {w' : World} (hi : ops[i]? = some o) (hd : o.dst = none) (ho : onlyB ops ops.size m i = true) (hw : wnt ops k E o = true) (hm : Nat.lor m (Nat.shiftLeft 1 i) = m')
    (hin : Nat.ble n i = true) (hr : (execOp (evl k E) o).run P w = .ok .skip w') (h : ganyE P ops Q S n fuel m' k E w') : ganyE P ops Q S n (fuel + 1) m k E w := by
  unfold ganyE
  obtain ⟨h1, h2⟩ := onlyB_spec ho
  refine ⟨fun h0 => (by rw [h0] at h1; cases h1), fun j hj => ?_⟩
  obtain rfl := h2 j hj
  refine wpOp_step hi fun K hK => ?_
  rw [wanted_sl, hw, if_pos rfl]
  unfold Oper.wp
  rw [eval_sl, hr, Oper.upon_skip]
  have hge : n ≤ j := Nat.le_of_ble_eq_true hin
  refine hK _ _ ⟨fun h0 => absurd h0 (by omega), ?_⟩
  rw [lsm_set, show m ||| 1 <<< j = m' from hm, hd]
  exact h
theorem gany_done (hr : noneB ops ops.size m = true) (h : Q .normal (sl k E) w) : ganyE P ops Q S n fuel m k E w := anyT_done (noneB_spec hr) h _
end
structure OwnV (B : Nat) (A : Option Addr) (l : List Int) (c : Nat) (w : World) : Prop where
  own : w.ownsRow B 65 1 (.slice A l.length c) l.length (l.map (Value.int .u8))
theorem OwnV.nil (w : World) (B : Nat) : OwnV B none [] 0 w := ⟨owq_nil w B⟩
theorem OwnV.kept {B : Nat} {A : Option Addr} {l : List Int} {c : Nat} {w w' : World} (h : OwnV B A l c w) (hb : Below w.heap.size w w') : OwnV B A l c w' := ⟨ownsRow_kept h.own hb⟩
theorem OwnV.open_ {B : Nat} {A : Option Addr} {l : List Int} {c : Nat} {w : World} (h : OwnV B A l c w) : Hid (l.length ≤ c ∧ c ≤ maxLen) ∧ Hid (OwQ B w A l) := by
  obtain ⟨A', c', e, h1, h2, h3⟩ := owq_open h.own
  injection e with e1 _ e2
  subst e1
  subst e2
  exact ⟨hide ⟨h1, h2⟩, hide h3⟩
section
variable {Q : Exit → Act → World → Prop} {ops : Array Oper} {o o2 : Oper} {rest : List Oper} {x y x0 : Operand} {w : World} {n d d2 k m fuel i m' B c N : Nat} {E : Env} {A : Option Addr} {l : List Int} {z : Int} {s : Bool} {S : World → Prop} {ρ : Operand → Value}
theorem run_bs1 (ho : o.op = .buildSlice 22 1 #[(0, x)]) (hx : ρ x = .int .u8 z) : (execOp ρ o).run Tryz.prog w = .ok (.value (.slice (some ⟨w.heap.size, 0, none⟩) 1 1)) (w.alloc (.cells #[.int .u8 z] 65)) := by
  unfold execOp
  rw [ho]
  simp [go_sem, hx]
theorem gstep_app (H : OwnV B A l c w) (W : World) (hB : B ≤ w.heap.size) (hl : l.length ≤ 4096) (hA : ∀ w', Below w.heap.size w w' → S w → S w') (hSB : ∀ v v', Below B v v' → S v → S v')
    {j j' : Nat} (hi : ops[i]? = some o) (hd : o.dst = some d) (hin : Nat.blt i n = true) (hw : wnt ops k E o = true) (hm : Nat.lor m (Nat.shiftLeft 1 i) = m') (ho : o.op = .buildSlice 22 1 #[(0, x0)]) (h0 : evl k E x0 = .int .u8 z)
    (hon : onlyB ops ops.size m' j = true) (hj : ops[j]? = some o2) (hd2 : o2.dst = some d2) (hjn : Nat.blt j n = true) (hg2 : o2.guard = none) (hm2 : Nat.lor m' (Nat.shiftLeft 1 j) = j') (ho2 : o2.op = .call { callee := .builtin .append, args := #[x, y], argTypes := #[22, 22] }) (hx : ∀ u : Value, evl k ((d, u) :: E) x = .slice A l.length c) (hy : ∀ u : Value, evl k ((d, u) :: E) y = u)
    (h : ∀ (V : World) (A' : Option Addr) (c' : Nat), OwnV B A' (l ++ [z]) c' V → Below B w V → ganyR Tryz.prog ops Q S n fuel j' k ((d2, .slice A' (l ++ [z]).length c') :: (d, .slice (some ⟨w.heap.size, 0, none⟩) 1 1) :: E) V) : GStep Tryz.prog ops Q S n (fuel + 1) m k E w i := by
  refine gstep_val hi hd hin hw hm (run_bs1 ho h0) (hA _ ((Below.refl _ _).alloc (Nat.le_refl _) _)) (gany_one hon ?_)
  intro hS inv hj2
  have hjn' : j < n := Nat.le_of_ble_eq_true hjn
  refine wpOp_step hj fun K hK => ?_
  have ha : Below B w (w.alloc (.cells #[.int .u8 z] 65)) := (Below.refl _ _).alloc hB _
  refine step_append_q hg2 x y ho2 B (.slice A l.length c) l.length l (by rw [eval_sl]; exact hx _) (H.own.alloc _) (some ⟨w.heap.size, 0, none⟩) 1 1 [z] (by rw [eval_sl]; exact hy _) rfl (one_rq _ _) (by simp; omega) (by simp; omega) ?_
  intro v' w3 hown hb
  obtain ⟨A', c', e, -, -, -⟩ := owq_open hown
  subst e
  have e1 : l.length + 1 = (l ++ [z]).length := by simp
  rw [e1] at hown
  have hS3 : S w3 := hSB _ _ hb hS
  refine hK _ _ ⟨fun _ => hS3, ?_⟩
  have inv' := inv.set hj2 hjn'
  rw [lsm_set, show m' ||| 1 <<< j = j' from hm2] at inv' ⊢
  rw [hd2, put_sl]
  exact h w3 A' c' ⟨hown⟩ (ha.trans hb) hS3 inv'
end
end
section
open Go Go.RowKit
set_option maxRecDepth 100000
set_option linter.unusedSimpArgs false
set_option linter.unusedVariables false
section
variable {Q : Exit → Act → World → Prop} {ops : Array Oper} {o : Oper} {rest : List Oper} {x y : Operand} {w W : World} {N n d m c : Nat} {s : Bool} {E : Env} {A : Option Addr}
theorem wpl_al (hd : o.dst = some d) (hw : wnt ops n E o = true) (ho : o.op = .alloc 24)
    (h : ∀ (V : World) (N : Nat), Box N none 0 0 false V → w.heap.size ≤ N → Below w.heap.size w V → WL Tryz.prog ops Q rest n ((d, .pointer (some ⟨N, 0, none⟩)) :: E) V) : WL Tryz.prog ops Q (o :: rest) n E w :=
  wpl_val hd hw (run_alvec ho) (h _ _ (Box.boxed w none 0 0 false) (Nat.le_refl _) ((Below.refl _ _).alloc (Nat.le_refl _) _))
theorem run_ldsg {ρ : Operand → Value} (ho : o.op = .load 4 x) (hx : ρ x = .pointer (some ⟨N, 1, none⟩)) (B : Box N A m c s w) : (execOp ρ o).run Tryz.prog w = .ok (.value (.bool s)) w := by
  have h1 := B.c1
  unfold execOp
  rw [ho]
  simp only [hx]
  simp [go_sem, h1]
theorem wpl_ldsg (B : Box N A m c s w) (hd : o.dst = some d) (hw : wnt ops n E o = true) (ho : o.op = .load 4 x) (hx : evl n E x = .pointer (some ⟨N, 1, none⟩))
    (h : WL Tryz.prog ops Q rest n ((d, .bool s) :: E) w) : WL Tryz.prog ops Q (o :: rest) n E w := wpl_val hd hw (run_ldsg ho hx B) h
theorem anyR_ldsg {fuel kk mk i m' q : Nat} (B : Box N A m c s W) (F : Rg ops q) (hQ : ∀ c a d v w, Q (.panic c) (Act.put a (some d) v) w → Q (.panic c) a w) (hi : ops[i]? = some o) (hd : o.dst = some d) (hin : Nat.blt i q = true) (hf : freeB ops ops.size mk i o = true) (hr : rdyB ops ops.size mk i = true)
    (hw : wnt ops kk E o = true) (hm : Nat.lor mk (Nat.shiftLeft 1 i) = m') (ho : o.op = .load 4 x) (hx : evl kk E x = .pointer (some ⟨N, 1, none⟩))
    (h : anyR Tryz.prog ops Q W q fuel m' kk ((d, .bool s) :: E) w) : anyR Tryz.prog ops Q W q (fuel + 1) mk kk E w :=
  anyR_val F hQ hi hd hin hf hr hw hm (fun w' hb => run_ldsg ho hx (B.kept hb)) h
theorem ret_box {fn : Func} {R : Ending → World → Prop} (B : Box N A m c s w) (hf : fn.results = #[.cell d 24]) (hv : (bif Nat.blt d n then lk E d else undef) = .pointer (some ⟨N, 0, none⟩)) (h : R (.returned (vagg A m c s)) w) : bodyPost Tryz.prog fn R .ret (sl n E) w := by
  refine bodyPost_ret (v := vagg A m c s) ?_ rfl h
  have h0 := B.c0
  have h1 := B.c1
  unfold results
  rw [hf]
  simp only [go_sem, List.mapM_toArray, List.mapM_cons, List.mapM_nil]
  have e := tmps_sl n E d
  rw [hv] at e
  rw [Array.getD_eq_getD_getElem?] at e
  simp [go_sem, e, h0, h1]
theorem OwQ.std {B m2 c2 : Nat} {A2 : Option Addr} {s2 : Bool} {V : World} {l : List Int} (h : OwQ B w A l) (hb : ∀ {B : Nat}, B ≤ N → Below B w V) (hN : N < B) (hk : ∀ g, g ≠ N → V.heap[g]? = w.heap[g]?) : OwQ B V A l := fun hn => by
  obtain ⟨g, e, hB, cs, hg, hc⟩ := h hn
  exact ⟨g, e, hB, cs, by rw [hk g (by omega)]; exact hg, hc⟩
end
end
section
open Go Go.RowKit
set_option maxRecDepth 100000
set_option linter.unusedSimpArgs false
set_option linter.unusedVariables false
theorem Box.keptB {N n c B : Nat} {A : Option Addr} {s : Bool} {w w' : World} (h : Box N A n c s w) (hb : Below B w w') (hN : N < B) : Box N A n c s w' :=
  ⟨Nat.lt_of_lt_of_le h.lt hb.size, (hb.cell (p := ⟨N, 0, none⟩) hN).trans h.c0, (hb.cell (p := ⟨N, 1, none⟩) hN).trans h.c1, (hb.frozen (p := ⟨N, 0, none⟩) hN).trans h.f0, (hb.frozen (p := ⟨N, 1, none⟩) hN).trans h.f1⟩
theorem Box.drew' {N n c : Nat} {A : Option Addr} {s : Bool} {w : World} (h : Box N A n c s w) : Box N A n c s w.drew := ⟨h.lt, h.c0, h.c1, h.f0, h.f1⟩
theorem OwnV.drew' {B : Nat} {A : Option Addr} {l : List Int} {c : Nat} {w : World} (h : OwnV B A l c w) : OwnV B A l c w.drew := ⟨h.own⟩
theorem RQ.bitB {wo W : World} {A : Option Addr} {l : List Int} (h : RQ wo A l) (hV : Below wo.heap.size wo W) {B : Nat} (hB : wo.heap.size ≤ B) {i : Nat} (hi : i < l.length) : ∃ ad, A = some ad ∧ ∀ w', Below B W w' → w'.cell? (ad.add i) = some (.int .u8 (qt l i)) := by
  obtain ⟨ad, e, hl, hc⟩ := h.at_ hi
  exact ⟨ad, e, fun w' hb => (hb.cell (p := ad.add i) (by rw [block_of_add]; omega)).trans ((hV.cell (p := ad.add i) (by rw [block_of_add]; exact hl)).trans hc)⟩
section
variable {Q : Exit → Act → World → Prop} {ops : Array Oper} {o o2 : Oper} {rest : List Oper} {x y x0 : Operand} {w W V wo : World} {n d d2 B N m c m2 c2 : Nat} {E : Env} {A A2 : Option Addr} {l l' : List Int} {z : Int} {s s2 : Bool} {ρ : Operand → Value}
theorem run_stsl (ho : o.op = .store 22 x y) (hx : ρ x = .pointer (some ⟨N, 0, none⟩)) (hy : ρ y = .slice A2 m2 c2) (b : Box N A m c s w) : (execOp ρ o).run Tryz.prog w = .ok .skip (w.setCell ⟨N, 0, none⟩ (.slice A2 m2 c2)) := by
  have h0 := b.c0
  have h2 := b.f0
  unfold execOp
  rw [ho]
  simp only [hx, hy]
  simp [go_sem, h0, h2]
theorem fit_next (hV : Below wo.heap.size wo W) (hno : wo.heap.size ≤ N) (b : Box N A m c s W) (hb : Below (N + 1) W V) (H : OwnV (N + 1) A2 (l ++ [z]) c2 V) (hl : l ++ [z] = l') :
    Below wo.heap.size wo (V.setCell ⟨N, 0, none⟩ (.slice A2 (l ++ [z]).length c2)) ∧ ∃ A c, Box N A l'.length c s (V.setCell ⟨N, 0, none⟩ (.slice A2 (l ++ [z]).length c2)) ∧ OwnV (N + 1) A l' c (V.setCell ⟨N, 0, none⟩ (.slice A2 (l ++ [z]).length c2)) := by
  subst hl
  have bV := b.keptB hb (Nat.lt_succ_self _)
  refine ⟨(hV.trans (hb.mono (by omega))).setCell (by exact hno) _, A2, c2, ⟨by simpa using bV.lt, cset_eq bV.c0, cset_ne (by simp) bV.c1, fset bV.f0, fset bV.f1⟩, ⟨ownsRow_setCell_below H.own (by simp) _⟩⟩
theorem wpl_app1q (H : OwnV B A l c w) (hB : B ≤ w.heap.size) (hl : l.length ≤ 4096) (hd : o.dst = some d) (hg : o.guard = none) (ho : o.op = .buildSlice 22 1 #[(0, x0)]) (h0 : evl n E x0 = .int .u8 z)
    (hd2 : o2.dst = some d2) (hg2 : o2.guard = none) (ho2 : o2.op = .call { callee := .builtin .append, args := #[x, y], argTypes := #[22, 22] }) (hx : ∀ u : Value, evl n ((d, u) :: E) x = .slice A l.length c) (hy : ∀ u : Value, evl n ((d, u) :: E) y = u)
    (h : ∀ (V : World) (A' : Option Addr) (c' : Nat), OwnV B A' (l ++ [z]) c' V → Below B w V → WL Tryz.prog ops Q rest n ((d2, .slice A' (l ++ [z]).length c') :: (d, .slice (some ⟨w.heap.size, 0, none⟩) 1 1) :: E) V) : WL Tryz.prog ops Q (o :: o2 :: rest) n E w :=
  wpl_val hd (by unfold wnt; rw [hg]) (run_bs1 ho h0) ⟨wpList_append_q _ hg2 x y ho2 B (.slice A l.length c) l.length l (by rw [eval_sl]; exact hx _) (H.own.alloc _) (some ⟨w.heap.size, 0, none⟩) 1 1 [z] (by rw [eval_sl]; exact hy _) rfl (one_rq _ _) (by simp; omega) (by simp; omega) (fun v' w' hown hb => by
    obtain ⟨A', c', e, -, -, -⟩ := owq_open hown
    subst e
    rw [hd2, put_sl]
    have e1 : l.length + 1 = (l ++ [z]).length := by simp
    rw [e1] at hown
    exact (h w' A' c' ⟨hown⟩ (((Below.refl _ _).alloc hB _).trans hb)).out)⟩
theorem wpl_stq (b : Box N A m c s w) (hd : o.dst = none) (hw : wnt ops n E o = true) (ho : o.op = .store 24 x y) (hx : evl n E x = .pointer (some ⟨N, 0, none⟩)) (hy : evl n E y = vagg A2 m2 c2 s2)
    (h : ∀ V : World, Box N A2 m2 c2 s2 V → (∀ g, g ≠ N → V.heap[g]? = w.heap[g]?) → (∀ {B : Nat}, B ≤ N → Below B w V) → WL Tryz.prog ops Q rest n E V) : WL Tryz.prog ops Q (o :: rest) n E w :=
  wpl_none hd hw (run_stbox ho hx hy b) (h _ b.st (fun g hg => by rw [heap_setCell_other _ _ _ _ hg, heap_setCell_other _ _ _ _ hg]) (fun hb => st_below hb))
end
end
section
open Go.RowKit
set_option maxRecDepth 100000
set_option linter.unusedSimpArgs false
set_option linter.unusedVariables false
theorem OwQ.low {B B' : Nat} {w : World} {A : Option Addr} {l : List Int} (h : OwQ B w A l) (hb : B' ≤ B) : OwQ B' w A l := fun hn => by
  obtain ⟨g, e, hB, hr⟩ := h hn
  exact ⟨g, e, by omega, hr⟩
set_option maxHeartbeats 4000000 in
theorem rfit_any (Aa : Option Addr) (la : List Int) (ca : Nat) (sa : Bool) (w : World) (ha : la.length ≤ 4096) (hca : Hid (la.length ≤ ca ∧ ca ≤ maxLen)) (hra : RQ w Aa la) (ya : By la) (n : Nat) (hn : n ≤ 4096) (h0 : 0 < la.length) :
    Calls Tryz.prog 103 #[.agg #[.slice Aa la.length ca, .bool sa], .int .i64 (n : Nat)] w (RetC (fun v => v = ⟨rsz ⟨la, sa⟩ n, sa⟩) w) := by
  have Oa := hide hra
  have La := hide ha
  have Ca := hca
  have Ya := hide ya
  clear ha hca hra ya
  obtain ⟨F, hF⟩ : ∃ F : Nat → Int, F = fun i => if i < la.length then qt la i else xt ⟨la, sa⟩ := ⟨_, rfl⟩
  have hF1 : ∀ i, i < la.length → F i = qt la i := fun i hi => by rw [hF]; exact if_pos hi
  have hF2 : ∀ i, la.length ≤ i → F i = xt ⟨la, sa⟩ := fun i hi => by rw [hF]; exact if_neg (by omega)
  have hR : ql n F = rsz ⟨la, sa⟩ n := by rw [hF]; rfl
  have hl4 := La.out
  obtain ⟨q, hq⟩ : ∃ q : Nat, q + 1 = la.length := ⟨la.length - 1, by omega⟩
  clear hF
  have hU : Below w.heap.size w w := Below.refl _ _
  refine calls_sl (l := [.agg #[.slice Aa la.length ca, .bool sa], .int .i64 ((n : Nat))]) 51 Tryz.func103 rfl kr (by simp) (wp_seq (reg_lit (wpl_boxvec (A := Aa) (m := la.length) (c := ca) (s := sa) rfl kr rfl kr ?_)))
  intro w1 Na Ba hNa hb
  replace Ba := hide Ba
  replace Oa := kQ Oa hb
  have hza : w.heap.size ≤ Na := Nat.le_trans hU.size hNa
  clear hNa
  replace hU := kU hU hb
  clear hb
  refine wpl_al rfl kr rfl ?_
  intro w2 Nr Br hNr hb
  replace Br := hide Br
  have near : Na ≠ Nr := by have := Ba.out.lt; omega
  replace Oa := kQ Oa hb
  replace Ba := hide (Box.kept Ba.out hb)
  have hzr : w.heap.size ≤ Nr := Nat.le_trans hU.size hNr
  clear hNr
  replace hU := kU hU hb
  clear hb
  refine sx_n (wpl_r1 [(7, .pointer (some ⟨Na, 1, none⟩))] kr (wpl_ldsg Ba.out rfl kr rfl kr (wpl_r1 [(9, .agg #[.slice none 0 0, .bool sa])] kr (wpl_made (A := none) (m := 0) (c := 0) (s := sa) rfl rfl rfl rfl rfl rfl (fun _ => kr) (fun _ => kr) ?_))))
  intro w1 No Bo hNo hV
  have hna : Na < No + 1 := by have := Ba.out.lt; omega
  have hnr : Nr < No + 1 := by have := Br.out.lt; omega
  refine wpl_end (then_normal (wp_seq (wp_seq (reg_lit (wpl_r1 [(6, .int .i64 0)] kr (wpl_end (then_normal ?_)))))))
  refine wp_block (loop_r (n + 1) ?_)
  refine loop_inv (N := n) (fun k E W => Kp [(6, .int .i64 (k : Nat)), (1, .int .i64 ((n : Nat))), (2, .pointer (some ⟨Na, 0, none⟩)), (4, .pointer (some ⟨Nr, 0, none⟩)), (5, .pointer (some ⟨No, 0, none⟩))] E ∧ Below w2.heap.size w2 W ∧ ∃ A c, Box No A (ql k F).length c sa W ∧ OwnV (No + 1) A (ql k F) c W) ?_ _ 0 _ _ (Nat.zero_le _) (by omega) ⟨Kp_c kr (Kp_c kr (Kp_c kr (Kp_c kr (Kp_c kr (Kp_n))))), hV, none, 0, Bo, OwnV.nil _ _⟩
  clear hV Bo
  intro k E W next hk hI hnext
  obtain ⟨hKp, hV, Ao, co, Bo, Ho⟩ := hI
  obtain ⟨lo, hlo⟩ : ∃ lo, lo = ql k F := ⟨_, rfl⟩
  rw [← hlo] at Bo Ho
  replace Bo := hide Bo
  replace Ho := hide Ho
  have hlk : lo.length = k := by rw [hlo, ql_length]
  have hlo4 : lo.length ≤ 4096 := by omega
  have hB : No + 1 ≤ W.heap.size := Bo.out.lt
  refine wp_keep _ hKp (fun X => ?_)
  clear hKp
  refine wp_seq (wp_seq ?_)
  rcases Nat.lt_or_ge k n with hlt | hge
  refine reg_lit (wpl_r2 [(11, .int .i64 ((n : Nat))), (10, .int .i64 ((k : Nat)))] kr (wpl_val rfl kr (run_lss (a := (k : Int)) (b := (n : Int)) rfl kr kr (decide_eq_true (by omega))) (wpl_end (then_normal (wp_ift kr (wp_skip (then_normal ?_)))))))
  refine wp_seq (wp_block (wp_seq ?_))
  rcases Nat.lt_or_ge k la.length with hka | hka
  refine reg_lit (wpl_r2 [(16, .pointer (some ⟨Na, 0, none⟩)), (15, .int .i64 ((k : Nat)))] kr ?_)
  refine wpl_ldsl (Ba.out.kept hV) rfl kr rfl kr ?_
  refine wpl_r1 [(18, .int .i64 ((la.length : Nat)))] kr (wpl_val rfl kr (run_lss (a := (k : Int)) (b := (la.length : Int)) rfl kr kr (decide_eq_true (by omega))) (wpl_end (then_normal (wp_ift kr ?_))))
  have hz : lo ++ [(qt la k)] = ql (k + 1) F := by rw [ql_snoc, ← hlo, hF1 k hka]
  obtain ⟨ad, hA, hc⟩ := RQ.bitB Oa.out hV (B := No + 1) (by omega) hka
  refine gregion (n := 10) (N := 11) (fun x => Below (No + 1) W x) kr kr kr kr kr kr (Below.refl _ _).drew (fun _ _ _ _ _ h => h) ?_
  intro Fr hQ
  refine gany_val (i := 0) (m' := 1) (v := .pointer (some ⟨No, 0, none⟩)) Fr hQ rfl rfl kr kr kr kr kr (fun _ hb => by kernel_rfl) ?_
  refine gany_val (i := 1) (m' := 3) (v := .slice Ao lo.length co) Fr hQ rfl rfl kr kr kr kr kr (fun _ hb => run_ldsl rfl kr (Box.keptB Bo.out hb (Nat.lt_succ_self _))) ?_
  refine gany_val (i := 2) (m' := 7) (v := .pointer (some ⟨Na, 0, none⟩)) Fr hQ rfl rfl kr kr kr kr kr (fun _ hb => by kernel_rfl) ?_
  refine gany_val (i := 3) (m' := 15) (v := .slice Aa la.length ca) Fr hQ rfl rfl kr kr kr kr kr (fun _ hb => run_ldsl rfl kr (Box.keptB (Ba.out.kept hV) hb hna)) ?_
  refine gany_val (i := 4) (m' := 31) (v := .int .i64 ((k : Nat))) Fr hQ rfl rfl kr kr kr kr kr (fun _ hb => by kernel_rfl) (gany_val (i := 5) (m' := 63) (v := .pointer (some (ad.add k))) Fr hQ rfl rfl kr kr kr kr kr (fun _ hb => run_ix (k := k) (m := la.length) (cc := ca) rfl kr hA kr hka) (gany_val (i := 6) (m' := 127) (v := .int .u8 ((qt la k))) Fr hQ rfl rfl kr kr kr kr kr (fun _ hb => run_ldbit rfl kr (hc _ hb)) (gany_one (i := 7) kr (gstep_app (j := 8) (m' := 255) (j' := 511) (z := (qt la k)) Ho.out.drew' W hB hlo4 (fun _ hb h => h.trans (hb.mono hB)) (fun _ _ hb h => h.trans hb) rfl rfl kr kr kr rfl kr kr rfl rfl kr rfl kr rfl (fun _ => kr) (fun _ => kr) ?_))))
  intro V A2 c2 Hv hb
  replace hb : Below (No + 1) W V := ((Below.refl _ _).drew).trans hb
  refine gany_val (i := 9) (m' := 1023) (v := .pointer (some ⟨No, 0, none⟩)) Fr hQ rfl rfl kr kr kr kr kr (fun _ hb => by kernel_rfl) (gany_e ?_)
  refine gany_none (i := 10) (m' := 2047) (w' := V.setCell ⟨No, 0, none⟩ (.slice A2 (lo ++ [(qt la k)]).length c2)) rfl rfl kr kr kr kr (run_stsl rfl kr kr (Bo.out.keptB hb (Nat.lt_succ_self _))) ?_
  refine gany_done kr ?_
  have HS := fit_next hV hNo Bo.out hb Hv hz
  clear Fr hQ
  refine block_normal (then_normal (reg_lit (wpl_r1 [(13, .int .i64 ((k : Nat)))] kr (wpl_val rfl kr (run_add (a := (k : Int)) (b := 1) (c := ((k + 1 : Int) : Int)) rfl kr kr (by omega) (by omega) (by omega)) (wpl_r1 [(6, .int .i64 (((k + 1 : Nat) : Int)))] kr (wpl_end ?_))))))
  refine then_normal (hnext _ _ hlt ⟨Kp_c kr (Kp_c kr (Kp_c kr (Kp_c kr (Kp_c kr (Kp_n))))), HS⟩)
  refine reg_lit (wpl_r2 [(16, .pointer (some ⟨Na, 0, none⟩)), (15, .int .i64 ((k : Nat)))] kr ?_)
  refine wpl_ldsl (Ba.out.kept hV) rfl kr rfl kr ?_
  refine wpl_r1 [(18, .int .i64 ((la.length : Nat)))] kr (wpl_val rfl kr (run_lss (a := (k : Int)) (b := (la.length : Int)) rfl kr kr (decide_eq_false (by omega))) (wpl_end (then_normal (wp_iff kr (wp_seq ?_)))))
  rcases Bool.eq_false_or_eq_true sa with hs | hs
  refine reg_lit (wpl_r1 [(30, .pointer (some ⟨Na, 1, none⟩))] kr ?_)
  refine wpl_ldsg (s := true) (by rw [← hs]; exact Ba.out.kept hV) rfl kr rfl kr ?_
  refine wpl_end (then_normal (wp_ift kr ?_))
  have hx : F k = qt la q := by rw [hF2 k hka]; unfold xt; simp only [hs, if_true]; rw [← hq]; rfl
  have hz : lo ++ [(qt la q)] = ql (k + 1) F := by rw [ql_snoc, ← hlo, hx]
  obtain ⟨ad, hA, hc⟩ := RQ.bitB Oa.out hV (B := No + 1) (by omega) (i := q) (by omega)
  refine gregion (n := 13) (N := 14) (fun x => Below (No + 1) W x) kr kr kr kr kr kr (Below.refl _ _).drew (fun _ _ _ _ _ h => h) ?_
  intro Fr hQ
  refine gany_val (i := 0) (m' := 1) (v := .pointer (some ⟨No, 0, none⟩)) Fr hQ rfl rfl kr kr kr kr kr (fun _ hb => by kernel_rfl) ?_
  refine gany_val (i := 1) (m' := 3) (v := .slice Ao lo.length co) Fr hQ rfl rfl kr kr kr kr kr (fun _ hb => run_ldsl rfl kr (Box.keptB Bo.out hb (Nat.lt_succ_self _))) ?_
  refine gany_val (i := 2) (m' := 7) (v := .pointer (some ⟨Na, 0, none⟩)) Fr hQ rfl rfl kr kr kr kr kr (fun _ hb => by kernel_rfl) ?_
  refine gany_val (i := 3) (m' := 15) (v := .slice Aa la.length ca) Fr hQ rfl rfl kr kr kr kr kr (fun _ hb => run_ldsl rfl kr (Box.keptB (Ba.out.kept hV) hb hna)) ?_
  refine gany_val (i := 4) (m' := 31) (v := .pointer (some ⟨Na, 0, none⟩)) Fr hQ rfl rfl kr kr kr kr kr (fun _ hb => by kernel_rfl) ?_
  refine gany_val (i := 5) (m' := 63) (v := .slice Aa la.length ca) Fr hQ rfl rfl kr kr kr kr kr (fun _ hb => run_ldsl rfl kr (Box.keptB (Ba.out.kept hV) hb hna)) ?_
  refine gany_val (i := 6) (m' := 127) (v := .int .i64 ((la.length : Nat))) Fr hQ rfl rfl kr kr kr kr kr (fun _ hb => by kernel_rfl) (gany_val (i := 7) (m' := 255) (v := .int .i64 ((q : Nat))) Fr hQ rfl rfl kr kr kr kr kr (fun _ hb => run_sub (a := (la.length : Int)) (b := 1) (c := (q : Int)) rfl kr kr (by omega) (by omega) (by omega)) (gany_val (i := 8) (m' := 511) (v := .pointer (some (ad.add q))) Fr hQ rfl rfl kr kr kr kr kr (fun _ hb => run_ix (k := q) (m := la.length) (cc := ca) rfl kr hA kr (by omega)) (gany_val (i := 9) (m' := 1023) (v := .int .u8 ((qt la q))) Fr hQ rfl rfl kr kr kr kr kr (fun _ hb => run_ldbit rfl kr (hc _ hb)) (gany_one (i := 10) kr (gstep_app (j := 11) (m' := 2047) (j' := 4095) (z := (qt la q)) Ho.out.drew' W hB hlo4 (fun _ hb h => h.trans (hb.mono hB)) (fun _ _ hb h => h.trans hb) rfl rfl kr kr kr rfl kr kr rfl rfl kr rfl kr rfl (fun _ => kr) (fun _ => kr) ?_)))))
  intro V A2 c2 Hv hb
  replace hb : Below (No + 1) W V := ((Below.refl _ _).drew).trans hb
  refine gany_val (i := 12) (m' := 8191) (v := .pointer (some ⟨No, 0, none⟩)) Fr hQ rfl rfl kr kr kr kr kr (fun _ hb => by kernel_rfl) (gany_e ?_)
  refine gany_none (i := 13) (m' := 16383) (w' := V.setCell ⟨No, 0, none⟩ (.slice A2 (lo ++ [(qt la q)]).length c2)) rfl rfl kr kr kr kr (run_stsl rfl kr kr (Bo.out.keptB hb (Nat.lt_succ_self _))) ?_
  refine gany_done kr ?_
  have HS := fit_next hV hNo Bo.out hb Hv hz
  clear Fr hQ
  refine block_normal (then_normal (reg_lit (wpl_r1 [(13, .int .i64 ((k : Nat)))] kr (wpl_val rfl kr (run_add (a := (k : Int)) (b := 1) (c := ((k + 1 : Int) : Int)) rfl kr kr (by omega) (by omega) (by omega)) (wpl_r1 [(6, .int .i64 (((k + 1 : Nat) : Int)))] kr (wpl_end ?_))))))
  refine then_normal (hnext _ _ hlt ⟨Kp_c kr (Kp_c kr (Kp_c kr (Kp_c kr (Kp_c kr (Kp_n))))), HS⟩)
  refine reg_lit (wpl_r1 [(30, .pointer (some ⟨Na, 1, none⟩))] kr ?_)
  refine wpl_ldsg (s := false) (by rw [← hs]; exact Ba.out.kept hV) rfl kr rfl kr ?_
  refine wpl_end (then_normal (wp_iff kr ?_))
  have hx : F k = 0 := by rw [hF2 k hka]; unfold xt; simp only [hs]; rfl
  have hz : lo ++ [0] = ql (k + 1) F := by rw [ql_snoc, ← hlo, hx]
  refine reg_lit (wpl_r1 [(45, .pointer (some ⟨No, 0, none⟩))] kr (wpl_ldsl Bo.out rfl kr rfl kr (wpl_app1q (z := 0) Ho.out hB hlo4 rfl rfl rfl kr rfl rfl rfl (fun _ => kr) (fun _ => kr) ?_)))
  intro V A2 c2 Hv hb
  refine wpl_r1 [(49, .pointer (some ⟨No, 0, none⟩))] kr ?_
  refine wpl_none (w' := V.setCell ⟨No, 0, none⟩ (.slice A2 (lo ++ [0]).length c2)) rfl kr (run_stsl rfl kr kr (Bo.out.keptB hb (Nat.lt_succ_self _))) ?_
  have HS := fit_next hV hNo Bo.out hb Hv hz
  refine wpl_end (block_normal (then_normal (reg_lit (wpl_r1 [(13, .int .i64 ((k : Nat)))] kr (wpl_val rfl kr (run_add (a := (k : Int)) (b := 1) (c := ((k + 1 : Int) : Int)) rfl kr kr (by omega) (by omega) (by omega)) (wpl_r1 [(6, .int .i64 (((k + 1 : Nat) : Int)))] kr (wpl_end ?_)))))))
  refine then_normal (hnext _ _ hlt ⟨Kp_c kr (Kp_c kr (Kp_c kr (Kp_c kr (Kp_c kr (Kp_n))))), HS⟩)
  refine reg_lit (wpl_r2 [(11, .int .i64 ((n : Nat))), (10, .int .i64 ((k : Nat)))] kr (wpl_val rfl kr (run_lss (a := (k : Int)) (b := (n : Int)) rfl kr kr (decide_eq_false (by omega))) (wpl_end (then_normal (wp_iff kr (wp_exit (then_exit ?_)))))))
  refine then_exit (exit_here (then_normal (wp_seq (reg_lit (wpl_ldvec Bo.out rfl kr rfl kr ?_)))))
  refine wpl_stq (A2 := Ao) (m2 := lo.length) (c2 := co) (s2 := sa) (Br.out.kept hV) rfl kr rfl kr kr ?_
  intro V Bq hkeep hbel
  refine wpl_end (then_normal (wp_ret (ret_box Bq rfl kr ?_)))
  obtain rfl : k = n := by omega
  exact ⟨lo, sa, Ao, co, hide (by rw [hlo, hR]), rfl, Ho.out.open_.1, hide (OwQ.low (OwQ.std (m2 := 0) (c2 := 0) (A2 := none) (s2 := false) Ho.out.open_.2.out hbel hnr hkeep) (by have := hU.size; omega)), (hU.trans (hV.mono hU.size)).trans (hbel hzr)⟩
end
section
open Go.RowKit
set_option maxRecDepth 100000
set_option linter.unusedSimpArgs false
set_option linter.unusedVariables false
def Qls (B g : Nat) (w : World) (x : Option Addr × Nat × Nat × Bool) : Prop := 0 < x.2.1 → ∃ gi F, x.1 = some ⟨gi, 0, none⟩ ∧ B ≤ gi ∧ gi ≠ g ∧ RowQ w gi x.2.1 F
theorem Qls.stored {B g : Nat} {w : World} {x : Option Addr × Nat × Nat × Bool} (h : Qls B g w x) (gj k : Nat) (v : Int) : Qls B g (w.setCell ⟨gj, k, none⟩ (.int .u8 v)) x := fun hn => by
  obtain ⟨gi, F, e, h1, h2, h3⟩ := h hn
  by_cases hg : gi = gj
  · subst hg; exact ⟨gi, _, e, h1, h2, h3.set_ k v⟩
  · exact ⟨gi, F, e, h1, h2, h3.far (by simpa using hg) _⟩
structure SpQ (B g : Nat) (vs : List (Option Addr × Nat × Nat × Bool)) (w wr : World) : Prop where
  sls : ∀ i (h : i < vs.length), wr.cell? ⟨g, i * 2, none⟩ = some (.slice vs[i].1 vs[i].2.1 vs[i].2.2.1)
  bls : ∀ i (h : i < vs.length), Qls B g wr vs[i]
  bel : Below B w wr
theorem SpQ.stored {B g : Nat} {vs : List (Option Addr × Nat × Nat × Bool)} {w wr : World} (h : SpQ B g vs w wr) {gj k : Nat} (hB : B ≤ gj) (hg : gj ≠ g) (v : Int) : SpQ B g vs w (wr.setCell ⟨gj, k, none⟩ (.int .u8 v)) where
  sls := fun i hi => by
    rw [World.cell?_setCell_other _ _ _ _ (by intro e; injection e; omega)]
    exact h.sls i hi
  bls := fun i hi => (h.bls i hi).stored gj k v
  bel := h.bel.setCell (by simpa using hB) _
set_option maxHeartbeats 2000000 in
theorem vspoil_any (B g c : Nat) (vs : List (Option Addr × Nat × Nat × Bool)) (w : World) (hv : vs.length ≤ 8) (hs : ∀ i (h : i < vs.length), vs[i].2.1 ≤ 4096) (h : SpQ B g vs w w) :
    Calls Tryz.prog 13 #[.slice (some ⟨g, 0, none⟩) vs.length c] w fun e w' => e = .returned (.tuple #[]) ∧ Below B w w' := by
  have H := hide h
  have HS := hide hs
  clear h hs
  go_enter Tryz.func13, Tryz.ntmps13
  go_wp2
  go_loopw [2] (fun i wr => ∃ k : Nat, k ≤ vs.length ∧ i = .int .i64 k ∧ SpQ B g vs w wr) (fun i _ => vs.length - (intOf i).toNat)
  case atStart => exact ⟨0, Nat.zero_le _, rfl, H.out⟩
  case round =>
    obtain ⟨k, hk, rfl, hR⟩ := hrel
    have hRH := hide hR
    clear hR
    by_cases hlt : k < vs.length
    · have hn4 := HS.out k hlt
      obtain ⟨x, hx⟩ : ∃ x, x = vs[k] := ⟨_, rfl⟩
      obtain ⟨A, n, cn, sn⟩ := x
      rw [← hx] at hn4
      have hsl : Hid (∀ wr, SpQ B g vs w wr → wr.cell? ⟨g, k * 2, none⟩ = some (.slice A n cn)) := hide fun wr h => by have := h.sls k hlt; rw [← hx] at this; exact this
      have hbl : Hid (∀ wr, SpQ B g vs w wr → Qls B g wr (A, n, cn, sn)) := hide fun wr h => by have := h.bls k hlt; rw [← hx] at this; exact this
      clear hx
      simp only at hn4
      go_wp2
      go_loopw [3] (fun i wr => ∃ m : Nat, m ≤ n ∧ i = .int .i64 m ∧ SpQ B g vs w wr) (fun i _ => n - (intOf i).toNat)
      case atStart => exact ⟨0, Nat.zero_le _, rfl, hRH.out⟩
      case round =>
        clear hRH
        obtain ⟨m, hm, rfl, hR⟩ := hrel
        have hRH := hide hR
        clear hR
        have hc := hsl.out _ hRH.out
        by_cases hmn : m < n
        · obtain ⟨gi, F, he, h1, h2, h3⟩ := hbl.out _ hRH.out (by simpa using Nat.lt_of_le_of_lt (Nat.zero_le _) hmn)
          simp only at he
          subst he
          have hcc := h3.cell (i := m) hmn
          have hff := h3.free m
          clear h3
          go_wp2
          go_roundw
          case rel => exact ⟨m + 1, by omega, by go_num, hRH.out.stored h1 h2 _⟩
          case measure => simp [intOf]; omega
        · go_wp2
          go_roundw
          case rel => exact ⟨k + 1, by omega, by go_num, hRH.out⟩
          case measure => simp [intOf]; omega
    · go_wp2
      go_end0
      exact ⟨rfl, hRH.out.bel⟩
theorem vspoil1 {A : Option Addr} {l : List Int} {cc : Nat} {s : Bool} (B g c : Nat) (w : World) (hl : l.length ≤ 4096) (h : Vls w g [(A, l.length, cc, s)]) (hO : OwQ B w A l) :
    Calls Tryz.prog 13 #[.slice (some ⟨g, 0, none⟩) 1 c] w fun e w' => e = .returned (.tuple #[]) ∧ Below B w w' := by
  refine vspoil_any B g c [(A, l.length, cc, s)] w (by simp) (fun i h => ?_) ⟨fun i hi => ?_, fun i hi => ?_, Below.refl _ _⟩
  · obtain rfl : i = 0 := by simpa using h
    exact hl
  · exact (h i hi).1
  · obtain rfl : i = 0 := by simpa using hi
    intro hn
    obtain ⟨gi, e, hB, hr⟩ := hO hn
    refine ⟨gi, _, e, hB, ?_, hr⟩
    intro eg
    subst eg
    have h1 := (h 0 (by simp)).1
    have h2 := hr.cell (i := 0) hn
    simp only [Nat.zero_mul] at h1
    rw [h2] at h1
    cases h1
end
section
open Go.RowKit
set_option maxRecDepth 100000
set_option linter.unusedSimpArgs false
set_option linter.unusedVariables false
structure OwnB (B : Nat) (v : Value) (l : List Bool) (w : World) : Prop where
  own : w.ownsRow B 4 1 v l.length (l.map Value.bool)
theorem OwnB.kept {B : Nat} {v : Value} {l : List Bool} {w w' : World} (h : OwnB B v l w) (hb : Below w.heap.size w w') : OwnB B v l w' := ⟨ownsRow_kept h.own hb⟩
section
variable {P : Program} {Q : Exit → Act → World → Prop} {ops : Array Oper} {o o2 : Oper} {rest : List Oper} {x y : Operand} {w : World} {n d d2 : Nat} {E : Env} {ρ : Operand → Value}
theorem run_not {t : TypeId} (ho : o.op = .unOp .not t x) {a q : Bool} (hx : ρ x = .bool a) (hc : (!a) = q) : (execOp ρ o).run P w = .ok (.value (.bool q)) w := by
  subst hc
  unfold execOp
  rw [ho]
  simp only [hx]
  rfl
theorem run_eql8 {t p : TypeId} {a b : Int} (ho : o.op = .binOp .eql t x y p) (hx : ρ x = .int .u8 a) (hy : ρ y = .int .u8 b) {q : Bool} (hc : (a == b) = q) : (execOp ρ o).run P w = .ok (.value (.bool q)) w := by
  subst hc
  unfold execOp
  rw [ho]
  simp only [hx, hy]
  rfl
end
end
section
open Go.RowKit
set_option maxRecDepth 100000
set_option linter.unusedSimpArgs false
set_option linter.unusedVariables false
section
variable {Q : Exit → Act → World → Prop} {ops : Array Oper} {o : Oper} {rest : List Oper} {x y : Operand} {w W : World} {A A2 : Option Addr} {N m c m2 c2 n d : Nat} {s s2 q : Bool} {E : Env}
theorem run_stsg {ρ : Operand → Value} (ho : o.op = .store 4 x y) (hx : ρ x = .pointer (some ⟨N, 1, none⟩)) (hy : ρ y = .bool q) (B : Box N A m c s w) :
    (execOp ρ o).run Tryz.prog w = .ok .skip (w.setCell ⟨N, 1, none⟩ (.bool q)) := by
  have h1 := B.c1
  have h3 := B.f1
  unfold execOp
  rw [ho]
  simp only [hx, hy]
  simp [go_sem, h1, h3]
theorem Box.sg_std (B : Box N A m c s w) (q : Bool) : Std N A m c q w (w.setCell ⟨N, 1, none⟩ (.bool q)) where
  box := ⟨by simpa using B.lt, cset_ne (by simp) B.c0, cset_eq B.c1, fset B.f0, fset B.f1⟩
  ne := fun b hne => ⟨by simpa using b.lt, cset_ne (by omega) b.c0, cset_ne (by omega) b.c1, fset b.f0, fset b.f1⟩
  rq := fun h hn => by
    obtain ⟨ad, e, hlt, hc⟩ := h hn
    refine ⟨ad, e, by simpa using hlt, fun i hi => ?_⟩
    have h0 := hc i hi
    rw [World.cell?_setCell_other _ _ _ _ (fun k => by rw [← k, B.c1] at h0; cases h0)]
    exact h0
  bel := fun h => (Below.refl _ _).setCell h _
theorem wpl_stsg (B : Box N A m c s w) (hd : o.dst = none) (hw : wnt ops n E o = true) (ho : o.op = .store 4 x y) (hx : evl n E x = .pointer (some ⟨N, 1, none⟩)) (hy : evl n E y = .bool q)
    (h : ∀ V : World, Std N A m c q w V → WL Tryz.prog ops Q rest n E V) : WL Tryz.prog ops Q (o :: rest) n E w :=
  wpl_none hd hw (run_stsg ho hx hy B) (h _ (B.sg_std q))
theorem anyE_stq {fuel k mk i m' q : Nat} (B : Box N A m c s w) (hi : ops[i]? = some o) (hd : o.dst = none) (ho' : onlyB ops ops.size mk i = true) (hw : wnt ops k E o = true) (hm : Nat.lor mk (Nat.shiftLeft 1 i) = m') (hin : Nat.ble q i = true)
    (ho : o.op = .store 24 x y) (hx : evl k E x = .pointer (some ⟨N, 0, none⟩)) (hy : evl k E y = vagg A2 m2 c2 s2)
    (h : ∀ V : World, Std N A2 m2 c2 s2 w V → (∀ g, g ≠ N → V.heap[g]? = w.heap[g]?) → anyE Tryz.prog ops Q W q fuel m' k E V) : anyE Tryz.prog ops Q W q (fuel + 1) mk k E w :=
  anyE_none hi hd ho' hw hm hin (run_stbox ho hx hy B) (h _ ⟨B.st, fun b hne => b.st_ne hne, fun r => r.st B, fun hb => st_below hb⟩ (fun g hg => by rw [heap_setCell_other _ _ _ _ hg, heap_setCell_other _ _ _ _ hg]))
theorem ret_box2 {M m' c' e : Nat} {A' : Option Addr} {s' : Bool} {fn : Func} {R : Ending → World → Prop} (B : Box N A m c s w) (B' : Box M A' m' c' s' w) (hf : fn.results = #[.cell d 24, .cell e 24])
    (hv : (bif Nat.blt d n then lk E d else undef) = .pointer (some ⟨N, 0, none⟩)) (hv' : (bif Nat.blt e n then lk E e else undef) = .pointer (some ⟨M, 0, none⟩)) (h : R (.returned (.tuple #[vagg A m c s, vagg A' m' c' s'])) w) : bodyPost Tryz.prog fn R .ret (sl n E) w := by
  refine bodyPost_ret (v := .tuple #[vagg A m c s, vagg A' m' c' s']) ?_ rfl h
  have h0 := B.c0
  have h1 := B.c1
  have h2 := B'.c0
  have h3 := B'.c1
  unfold results
  rw [hf]
  simp only [go_sem, List.mapM_toArray, List.mapM_cons, List.mapM_nil]
  have e1 := tmps_sl n E d
  rw [hv] at e1
  rw [Array.getD_eq_getD_getElem?] at e1
  have e2 := tmps_sl n E e
  rw [hv'] at e2
  rw [Array.getD_eq_getD_getElem?] at e2
  simp [go_sem, e1, e2, h0, h1, h2, h3]
end
theorem sep_of {B : Nat} {w w' : World} {A A2 : Option Addr} {l l2 : List Int} (h : OwQ B w A l) (k : OwQ w.heap.size w' A2 l2) (p : 0 < l.length) (q : 0 < l2.length) : Sep A A2 := fun g g2 e e2 => by
  obtain ⟨x, ex, hx, hr⟩ := h p
  obtain ⟨y, ey, hy, hr2⟩ := k q
  rw [e] at ex
  rw [e2] at ey
  injection ex with ex
  injection ex with ex
  injection ey with ey
  injection ey with ey
  have := hr.lt
  omega
def RetBR (a b : Vc) (w : World) (e : Ending) (w' : World) : Prop :=
  ∃ p P c q Q d, Hid (p = blA a b) ∧ Hid (q = blB a b) ∧ e = .returned (.tuple #[.agg #[.slice P p.length c, .bool (sg a b)], .agg #[.slice Q q.length d, .bool (sg a b)]]) ∧ Hid (p.length ≤ c ∧ c ≤ maxLen) ∧ Hid (q.length ≤ d ∧ d ≤ maxLen) ∧ Hid (OwQ w.heap.size w' P p) ∧ Hid (OwQ w.heap.size w' Q q) ∧ Hid (Sep P Q) ∧ Below w.heap.size w w'
end
section
open Go.RowKit
set_option maxRecDepth 100000
set_option linter.unusedSimpArgs false
set_option linter.unusedVariables false
theorem sg3 (s t : Bool) : s = false ∨ (s = true ∧ t = false) ∨ (s = true ∧ t = true) := by cases s <;> cases t <;> simp
set_option maxHeartbeats 4000000 in
theorem rbalance_any (Aa Ab : Option Addr) (la lb : List Int) (ca cb : Nat) (sa sb : Bool) (w : World) (ha : la.length ≤ 4096) (hb : lb.length ≤ 4096) (hca : Hid (la.length ≤ ca ∧ ca ≤ maxLen)) (hcb : Hid (lb.length ≤ cb ∧ cb ≤ maxLen)) (hra : RQ w Aa la) (hrb : RQ w Ab lb) (ya : By la) (yb : By lb) :
    Calls Tryz.prog 86 #[.agg #[.slice Aa la.length ca, .bool sa], .agg #[.slice Ab lb.length cb, .bool sb]] w (RetBR ⟨la, sa⟩ ⟨lb, sb⟩ w) := by
  have Oa := hide hra
  have La := hide ha
  have Ca := hca
  have Ya := hide ya
  have Ob := hide hrb
  have Lb := hide hb
  have Cb := hcb
  have Yb := hide yb
  clear ha hca hra ya hb hcb hrb yb
  have hU : Below w.heap.size w w := Below.refl _ _
  refine calls_sl (l := [.agg #[.slice Aa la.length ca, .bool sa], .agg #[.slice Ab lb.length cb, .bool sb]]) 34 Tryz.func86 rfl kr (by simp) (wp_seq (reg_lit (wpl_boxvec (A := Aa) (m := la.length) (c := ca) (s := sa) rfl kr rfl kr ?_)))
  intro w1 Na Ba hNa hb
  replace Ba := hide Ba
  replace Oa := kQ Oa hb
  replace Ob := kQ Ob hb
  have hza : w.heap.size ≤ Na := Nat.le_trans hU.size hNa
  clear hNa
  replace hU := kU hU hb
  clear hb
  refine wpl_boxvec (A := Ab) (m := lb.length) (c := cb) (s := sb) rfl kr rfl kr ?_
  intro w2 Nb Bb hNb hb
  replace Bb := hide Bb
  have neab : Na ≠ Nb := by have := Ba.out.lt; omega
  replace Oa := kQ Oa hb
  replace Ob := kQ Ob hb
  replace Ba := hide (Box.kept Ba.out hb)
  have hzb : w.heap.size ≤ Nb := Nat.le_trans hU.size hNb
  clear hNb
  replace hU := kU hU hb
  clear hb
  refine wpl_al rfl kr rfl ?_
  intro w3 Nu Bu hNu hb
  replace Bu := hide Bu
  have neau : Na ≠ Nu := by have := Ba.out.lt; omega
  have nebu : Nb ≠ Nu := by have := Bb.out.lt; omega
  replace Oa := kQ Oa hb
  replace Ob := kQ Ob hb
  replace Ba := hide (Box.kept Ba.out hb)
  replace Bb := hide (Box.kept Bb.out hb)
  have hzu : w.heap.size ≤ Nu := Nat.le_trans hU.size hNu
  clear hNu
  replace hU := kU hU hb
  clear hb
  refine wpl_al rfl kr rfl ?_
  intro w4 Nv Bv hNv hb
  replace Bv := hide Bv
  have neav : Na ≠ Nv := by have := Ba.out.lt; omega
  have nebv : Nb ≠ Nv := by have := Bb.out.lt; omega
  have neuv : Nu ≠ Nv := by have := Bu.out.lt; omega
  replace Oa := kQ Oa hb
  replace Ob := kQ Ob hb
  replace Ba := hide (Box.kept Ba.out hb)
  replace Bb := hide (Box.kept Bb.out hb)
  replace Bu := hide (Box.kept Bu.out hb)
  have hzv : w.heap.size ≤ Nv := Nat.le_trans hU.size hNv
  clear hNv
  replace hU := kU hU hb
  clear hb
  refine wpl_end (then_normal (wp_seq (region_R (n := 4) (N := 6) kr kr kr kr kr kr (fun _ _ _ _ _ h => h) ?_)))
  intro F hQ
  have Ba0 := Ba
  have Bb0 := Bb
  have Bu0 := Bu
  have Bv0 := Bv
  refine anyR_ldvec (i := 0) (m' := 1) Ba0.out F hQ rfl rfl kr kr kr kr kr rfl kr (anyR_ldvec (i := 2) (m' := 5) Bb0.out F hQ rfl rfl kr kr kr kr kr rfl kr ?_)
  refine anyR_call (i := 1) (m' := 7) rfl rfl kr kr kr kr kr ((rnorm_any' Aa la ca sa _ La.out Ca (by exact Oa.out) Ya.out).mono ?_)
  rintro e w5 ⟨l1, s1, A1, c1, E1, rfl, C1, O1, hb⟩
  refine ⟨_, rfl, hb, ?_⟩
  replace hb : Below w4.heap.size w4 w5 := Below.trans ((Below.refl _ _).drew) hb
  replace Oa := kQ Oa hb
  replace Ob := kQ Ob hb
  replace Ba := hide (Box.kept Ba.out hb)
  replace Bb := hide (Box.kept Bb.out hb)
  replace Bu := hide (Box.kept Bu.out hb)
  replace Bv := hide (Box.kept Bv.out hb)
  replace O1 := hide O1.out.rd
  replace hU := kU hU hb
  clear hb
  have G1 : Gd l1 := by have h := congrArg Vc.b E1.out; dsimp only at h; rw [h]; exact (cnt_gd (v := ⟨la, sa⟩) Ya.out)
  have L1 := hide (show l1.length ≤ 4096 from Nat.le_trans G1.le (by decide))
  have Y1 := hide G1.by_
  clear G1
  refine anyR_call (i := 3) (m' := 15) rfl rfl kr kr kr kr kr ((rnorm_any' Ab lb cb sb _ Lb.out Cb Ob.out Yb.out).mono ?_)
  rintro e w6 ⟨l2, s2, A2, c2, E2, rfl, C2, O2, hb⟩
  refine ⟨_, rfl, hb, ?_⟩
  replace Oa := kQ Oa hb
  replace Ob := kQ Ob hb
  replace O1 := kQ O1 hb
  replace Ba := hide (Box.kept Ba.out hb)
  replace Bb := hide (Box.kept Bb.out hb)
  replace Bu := hide (Box.kept Bu.out hb)
  replace Bv := hide (Box.kept Bv.out hb)
  replace O2 := hide O2.out.rd
  replace hU := kU hU hb
  clear hb
  have G2 : Gd l2 := by have h := congrArg Vc.b E2.out; dsimp only at h; rw [h]; exact (cnt_gd (v := ⟨lb, sb⟩) Yb.out)
  have L2 := hide (show l2.length ≤ 4096 from Nat.le_trans G2.le (by decide))
  have Y2 := hide G2.by_
  clear G2
  refine anyR_e (anyE_st (i := 4) (m' := 31) Ba.out rfl rfl kr kr kr kr rfl kr (A2 := A1) (m2 := l1.length) (c2 := c1) (s2 := s1) kr ?_)
  intro w7 hst
  replace Oa := hide (hst.rq Oa.out)
  replace Ob := hide (hst.rq Ob.out)
  replace O1 := hide (hst.rq O1.out)
  replace O2 := hide (hst.rq O2.out)
  replace Bb := hide (hst.ne Bb.out (by first | exact neba | exact (Ne.symm neab) | assumption | (exact Ne.symm (by assumption)) | omega))
  replace Bu := hide (hst.ne Bu.out (by first | exact neua | exact (Ne.symm neau) | assumption | (exact Ne.symm (by assumption)) | omega))
  replace Bv := hide (hst.ne Bv.out (by first | exact neva | exact (Ne.symm neav) | assumption | (exact Ne.symm (by assumption)) | omega))
  replace Ba := hide hst.box
  replace hU := hU.trans (hst.bel hza)
  clear hst
  refine anyE_st (i := 5) (m' := 63) Bb.out rfl rfl kr kr kr kr rfl kr (A2 := A2) (m2 := l2.length) (c2 := c2) (s2 := s2) kr ?_
  intro w8 hst
  replace Oa := hide (hst.rq Oa.out)
  replace Ob := hide (hst.rq Ob.out)
  replace O1 := hide (hst.rq O1.out)
  replace O2 := hide (hst.rq O2.out)
  replace Ba := hide (hst.ne Ba.out (by first | exact neab | exact (Ne.symm neba) | assumption | (exact Ne.symm (by assumption)) | omega))
  replace Bu := hide (hst.ne Bu.out (by first | exact neub | exact (Ne.symm nebu) | assumption | (exact Ne.symm (by assumption)) | omega))
  replace Bv := hide (hst.ne Bv.out (by first | exact nevb | exact (Ne.symm nebv) | assumption | (exact Ne.symm (by assumption)) | omega))
  replace Bb := hide hst.box
  replace hU := hU.trans (hst.bel hzb)
  clear hst
  refine anyE_done kr ?_
  clear F hQ Ba0 Bb0 Bu0 Bv0
  refine then_normal (wp_seq (wp_seq ?_))
  have q1 : (cnt ⟨la, sa⟩).s = s1 := (congrArg Vc.s E1.out).symm
  have q2 : (cnt ⟨lb, sb⟩).s = s2 := (congrArg Vc.s E2.out).symm
  have hsg : sg ⟨la, sa⟩ ⟨lb, sb⟩ = (s1 && s2) := by unfold sg; rw [q1, q2]
  clear q1 q2
  rcases sg3 s1 s2 with h1 | ⟨h1, h2⟩ | ⟨h1, h2⟩
  have hsg3 : sg ⟨la, sa⟩ ⟨lb, sb⟩ = false := by rw [hsg, h1] <;> rfl
  refine reg_lit (wpl_r1 [(11, .pointer (some ⟨Na, 1, none⟩))] kr (wpl_ldsg Ba.out rfl kr rfl kr (wpl_val rfl kr (run_not (a := s1) rfl kr (by rw [h1] <;> rfl)) (wpl_r5 [(18, .bool true), (17, undef), (16, undef), (15, undef), (14, .bool true)] kr (wpl_end (then_normal (wp_ift kr ?_)))))))
  refine reg_lit (wpl_r1 [(19, .pointer (some ⟨Na, 1, none⟩))] kr (wpl_stsg (q := false) Ba.out rfl kr rfl kr kr ?_))
  intro w9 hst
  replace Oa := hide (hst.rq Oa.out)
  replace Ob := hide (hst.rq Ob.out)
  replace O1 := hide (hst.rq O1.out)
  replace O2 := hide (hst.rq O2.out)
  replace Bb := hide (hst.ne Bb.out nq)
  replace Bu := hide (hst.ne Bu.out nq)
  replace Bv := hide (hst.ne Bv.out nq)
  replace Ba := hide hst.box
  replace hU := hU.trans (hst.bel hza)
  clear hst
  refine wpl_r1 [(20, .pointer (some ⟨Nb, 1, none⟩))] kr (wpl_stsg (q := false) Bb.out rfl kr rfl kr kr ?_)
  intro w10 hst
  replace Oa := hide (hst.rq Oa.out)
  replace Ob := hide (hst.rq Ob.out)
  replace O1 := hide (hst.rq O1.out)
  replace O2 := hide (hst.rq O2.out)
  replace Ba := hide (hst.ne Ba.out nq)
  replace Bu := hide (hst.ne Bu.out nq)
  replace Bv := hide (hst.ne Bv.out nq)
  replace Bb := hide hst.box
  replace hU := hU.trans (hst.bel hzb)
  clear hst
  refine wpl_end (then_normal (wp_seq ?_))
  obtain ⟨A3, l3, c3, s3, hb, O3, L3, Y3, C3, E3⟩ : ∃ (A : Option Addr) (l : List Int) (c : Nat) (s : Bool), Hid (Box Na A l.length c s w10) ∧ Hid (RQ w10 A l) ∧ Hid (l.length ≤ 4096) ∧ Hid (By l) ∧ Hid (l.length ≤ c ∧ c ≤ maxLen) ∧ Hid ((⟨l, s⟩ : Vc) = ⟨(cnt ⟨la, sa⟩).b, sg ⟨la, sa⟩ ⟨lb, sb⟩⟩) := ⟨A1, l1, c1, false, Ba, hide O1.out, L1, Y1, C1, hide (by rw [hsg3, ← congrArg Vc.b E1.out])⟩
  replace Ba := hb
  clear hb O1 L1 Y1 C1
  have HG3 := hide (show Gd l3 by have h := congrArg Vc.b E3.out; dsimp only at h; rw [h]; exact cnt_gd (v := ⟨la, sa⟩) Ya.out)
  have h03 : 0 < l3.length := HG3.out.pos
  have e3 : l3.length = (cnt ⟨la, sa⟩).b.length := by have h := congrArg Vc.b E3.out; dsimp only at h; rw [h]
  obtain ⟨A4, l4, c4, s4, hb, O4, L4, Y4, C4, E4⟩ : ∃ (A : Option Addr) (l : List Int) (c : Nat) (s : Bool), Hid (Box Nb A l.length c s w10) ∧ Hid (RQ w10 A l) ∧ Hid (l.length ≤ 4096) ∧ Hid (By l) ∧ Hid (l.length ≤ c ∧ c ≤ maxLen) ∧ Hid ((⟨l, s⟩ : Vc) = ⟨(cnt ⟨lb, sb⟩).b, sg ⟨la, sa⟩ ⟨lb, sb⟩⟩) := ⟨A2, l2, c2, false, Bb, hide O2.out, L2, Y2, C2, hide (by rw [hsg3, ← congrArg Vc.b E2.out])⟩
  replace Bb := hb
  clear hb O2 L2 Y2 C2
  have HG4 := hide (show Gd l4 by have h := congrArg Vc.b E4.out; dsimp only at h; rw [h]; exact cnt_gd (v := ⟨lb, sb⟩) Yb.out)
  have h04 : 0 < l4.length := HG4.out.pos
  have e4 : l4.length = (cnt ⟨lb, sb⟩).b.length := by have h := congrArg Vc.b E4.out; dsimp only at h; rw [h]
  obtain ⟨n, hn⟩ : ∃ n : Nat, n = max l3.length l4.length := ⟨_, rfl⟩
  have hn1 : n = wd ⟨la, sa⟩ ⟨lb, sb⟩ := by rw [hn, e3, e4]; rfl
  have hn2 : 0 < n ∧ n ≤ 128 := by rw [hn1]; exact wd_bd (a := ⟨la, sa⟩) (b := ⟨lb, sb⟩) Ya.out Yb.out
  have hmx : (if (l4.length : Int) > l3.length then (l4.length : Int) else l3.length) = (n : Int) := by rw [hn]; simp only [Nat.max_def]; split <;> split <;> omega
  have b3 := L3.out
  have b4 := L4.out
  refine reg_lit (wpl_r1 [(21, .pointer (some ⟨Na, 0, none⟩))] kr (wpl_ldsl Ba.out rfl kr rfl kr (wpl_r2 [(24, .pointer (some ⟨Nb, 0, none⟩)), (23, .int .i64 ((l3.length : Nat)))] kr (wpl_ldsl Bb.out rfl kr rfl kr (wpl_r1 [(26, .int .i64 ((l4.length : Nat)))] kr (wpl_val rfl kr (run_max (a := (l3.length : Int)) (b := (l4.length : Int)) rfl kr kr hmx) (wpl_r1 [(6, .int .i64 ((n : Nat)))] kr ?_)))))))
  refine wpl_end (then_normal (wp_seq (region_R (n := 6) (N := 8) kr kr kr kr kr kr (fun _ _ _ _ _ h => h) ?_)))
  intro F hQ
  have Ba0 := Ba
  have Bb0 := Bb
  have Bu0 := Bu
  have Bv0 := Bv
  refine anyR_ldvec (i := 0) (m' := 1) Ba0.out F hQ rfl rfl kr kr kr kr kr rfl kr (anyR_val (i := 1) (m' := 3) (v := .int .i64 ((n : Nat))) F hQ rfl rfl kr kr kr kr kr (fun _ _ => kr) (anyR_ldvec (i := 3) (m' := 11) Bb0.out F hQ rfl rfl kr kr kr kr kr rfl kr (anyR_val (i := 4) (m' := 27) (v := .int .i64 ((n : Nat))) F hQ rfl rfl kr kr kr kr kr (fun _ _ => kr) ?_)))
  refine anyR_call (i := 2) (m' := 31) rfl rfl kr kr kr kr kr ((rfit_any A3 l3 c3 s3 _ L3.out C3 (by exact O3.out) Y3.out n (by omega) h03).mono ?_)
  rintro e w11 ⟨l5, s5, A5, c5, E5, rfl, C5, O5, hb⟩
  refine ⟨_, rfl, hb, ?_⟩
  have n5u : Nu < w10.heap.size := Bu.out.lt
  have n5v : Nv < w10.heap.size := Bv.out.lt
  have k5 : w.heap.size ≤ w10.heap.size := hU.size
  have p5 : 0 < l5.length := by have h := congrArg (fun v : Vc => v.b.length) E5.out; dsimp only at h; rw [h, rsz_length]; exact hn2.1
  replace hb : Below w10.heap.size w10 w11 := Below.trans ((Below.refl _ _).drew) hb
  replace Oa := kQ Oa hb
  replace Ob := kQ Ob hb
  replace O3 := kQ O3 hb
  replace O4 := kQ O4 hb
  replace Ba := hide (Box.kept Ba.out hb)
  replace Bb := hide (Box.kept Bb.out hb)
  replace Bu := hide (Box.kept Bu.out hb)
  replace Bv := hide (Box.kept Bv.out hb)
  replace hU := kU hU hb
  clear hb
  have G5 : Gd l5 := by have h := congrArg Vc.b E5.out; dsimp only at h; rw [h]; exact (gd_rsz (v := ⟨l3, s3⟩) HG3.out hn2.1 hn2.2)
  have L5 := hide (show l5.length ≤ 4096 from Nat.le_trans G5.le (by decide))
  have Y5 := hide G5.by_
  clear G5
  refine anyR_call (i := 5) (m' := 63) rfl rfl kr kr kr kr kr ((rfit_any A4 l4 c4 s4 _ L4.out C4 O4.out Y4.out n (by omega) h04).mono ?_)
  rintro e w12 ⟨l6, s6, A6, c6, E6, rfl, C6, O6, hb⟩
  refine ⟨_, rfl, hb, ?_⟩
  have n6u : Nu < w11.heap.size := Bu.out.lt
  have n6v : Nv < w11.heap.size := Bv.out.lt
  have k6 : w.heap.size ≤ w11.heap.size := hU.size
  have p6 : 0 < l6.length := by have h := congrArg (fun v : Vc => v.b.length) E6.out; dsimp only at h; rw [h, rsz_length]; exact hn2.1
  have S56 : Hid (Sep A5 A6) := hide (sep_of O5.out O6.out p5 p6)
  replace Oa := kQ Oa hb
  replace Ob := kQ Ob hb
  replace O3 := kQ O3 hb
  replace O4 := kQ O4 hb
  replace O5 := kO O5 hb
  replace Ba := hide (Box.kept Ba.out hb)
  replace Bb := hide (Box.kept Bb.out hb)
  replace Bu := hide (Box.kept Bu.out hb)
  replace Bv := hide (Box.kept Bv.out hb)
  replace hU := kU hU hb
  clear hb
  have G6 : Gd l6 := by have h := congrArg Vc.b E6.out; dsimp only at h; rw [h]; exact (gd_rsz (v := ⟨l4, s4⟩) HG4.out hn2.1 hn2.2)
  have L6 := hide (show l6.length ≤ 4096 from Nat.le_trans G6.le (by decide))
  have Y6 := hide G6.by_
  clear G6
  refine anyR_e (anyE_stq (i := 6) (m' := 127) Bu.out rfl rfl kr kr kr kr rfl kr (A2 := A5) (m2 := l5.length) (c2 := c5) (s2 := s5) kr ?_)
  intro w13 hst hkeep
  replace Oa := hide (hst.rq Oa.out)
  replace Ob := hide (hst.rq Ob.out)
  replace O3 := hide (hst.rq O3.out)
  replace O4 := hide (hst.rq O4.out)
  replace O5 := hide (OwQ.std (m2 := 0) (c2 := 0) (A2 := none) (s2 := false) O5.out hst.bel n5u hkeep)
  replace O6 := hide (OwQ.std (m2 := 0) (c2 := 0) (A2 := none) (s2 := false) O6.out hst.bel n6u hkeep)
  replace Ba := hide (hst.ne Ba.out nq)
  replace Bb := hide (hst.ne Bb.out nq)
  replace Bv := hide (hst.ne Bv.out nq)
  replace Bu := hide hst.box
  replace hU := hU.trans (hst.bel hzu)
  clear hst hkeep
  refine anyE_stq (i := 7) (m' := 255) Bv.out rfl rfl kr kr kr kr rfl kr (A2 := A6) (m2 := l6.length) (c2 := c6) (s2 := s6) kr ?_
  intro w14 hst hkeep
  replace Oa := hide (hst.rq Oa.out)
  replace Ob := hide (hst.rq Ob.out)
  replace O3 := hide (hst.rq O3.out)
  replace O4 := hide (hst.rq O4.out)
  replace O5 := hide (OwQ.std (m2 := 0) (c2 := 0) (A2 := none) (s2 := false) O5.out hst.bel n5v hkeep)
  replace O6 := hide (OwQ.std (m2 := 0) (c2 := 0) (A2 := none) (s2 := false) O6.out hst.bel n6v hkeep)
  replace Ba := hide (hst.ne Ba.out nq)
  replace Bb := hide (hst.ne Bb.out nq)
  replace Bu := hide (hst.ne Bu.out nq)
  replace Bv := hide hst.box
  replace hU := hU.trans (hst.bel hzv)
  clear hst hkeep
  refine anyE_done kr ?_
  clear F hQ Ba0 Bb0 Bu0 Bv0
  refine then_normal (wp_ret ?_)
  have z5 : s5 = (sg ⟨la, sa⟩ ⟨lb, sb⟩) := (congrArg Vc.s E5.out).trans (congrArg Vc.s E3.out)
  have z6 : s6 = (sg ⟨la, sa⟩ ⟨lb, sb⟩) := (congrArg Vc.s E6.out).trans (congrArg Vc.s E4.out)
  refine ret_box2 Bu.out Bv.out rfl kr kr ?_
  exact ⟨l5, A5, c5, l6, A6, c6, hide ((congrArg Vc.b E5.out).trans (by rw [E3.out, hn1]; rfl)), hide ((congrArg Vc.b E6.out).trans (by rw [E4.out, hn1]; rfl)), (by show Ending.returned (.tuple #[vagg A5 l5.length c5 s5, vagg A6 l6.length c6 s6]) = .returned (.tuple #[vagg A5 l5.length c5 (sg ⟨la, sa⟩ ⟨lb, sb⟩), vagg A6 l6.length c6 (sg ⟨la, sa⟩ ⟨lb, sb⟩)]); rw [z5, z6]), C5, C6, hide (OwQ.low O5.out k5), hide (OwQ.low O6.out k6), S56, hU⟩
  have hsg3 : sg ⟨la, sa⟩ ⟨lb, sb⟩ = false := by rw [hsg, h1, h2] <;> rfl
  refine reg_lit (wpl_r1 [(11, .pointer (some ⟨Na, 1, none⟩))] kr (wpl_ldsg Ba.out rfl kr rfl kr (wpl_val rfl kr (run_not (a := s1) rfl kr (by rw [h1] <;> rfl)) (wpl_r2 [(15, .pointer (some ⟨Nb, 1, none⟩)), (14, .bool false)] kr (wpl_ldsg Bb.out rfl kr rfl kr (wpl_val rfl kr (run_not (a := s2) rfl kr (by rw [h2] <;> rfl)) (wpl_r1 [(18, .bool true)] kr ?_)))))))
  refine wpl_end (then_normal (wp_ift kr (reg_lit (wpl_r1 [(19, .pointer (some ⟨Na, 1, none⟩))] kr (wpl_stsg (q := false) Ba.out rfl kr rfl kr kr ?_)))))
  intro w15 hst
  replace Oa := hide (hst.rq Oa.out)
  replace Ob := hide (hst.rq Ob.out)
  replace O1 := hide (hst.rq O1.out)
  replace O2 := hide (hst.rq O2.out)
  replace Bb := hide (hst.ne Bb.out nq)
  replace Bu := hide (hst.ne Bu.out nq)
  replace Bv := hide (hst.ne Bv.out nq)
  replace Ba := hide hst.box
  replace hU := hU.trans (hst.bel hza)
  clear hst
  refine wpl_r1 [(20, .pointer (some ⟨Nb, 1, none⟩))] kr (wpl_stsg (q := false) Bb.out rfl kr rfl kr kr ?_)
  intro w16 hst
  replace Oa := hide (hst.rq Oa.out)
  replace Ob := hide (hst.rq Ob.out)
  replace O1 := hide (hst.rq O1.out)
  replace O2 := hide (hst.rq O2.out)
  replace Ba := hide (hst.ne Ba.out nq)
  replace Bu := hide (hst.ne Bu.out nq)
  replace Bv := hide (hst.ne Bv.out nq)
  replace Bb := hide hst.box
  replace hU := hU.trans (hst.bel hzb)
  clear hst
  refine wpl_end (then_normal (wp_seq ?_))
  obtain ⟨A3, l3, c3, s3, hb, O3, L3, Y3, C3, E3⟩ : ∃ (A : Option Addr) (l : List Int) (c : Nat) (s : Bool), Hid (Box Na A l.length c s w16) ∧ Hid (RQ w16 A l) ∧ Hid (l.length ≤ 4096) ∧ Hid (By l) ∧ Hid (l.length ≤ c ∧ c ≤ maxLen) ∧ Hid ((⟨l, s⟩ : Vc) = ⟨(cnt ⟨la, sa⟩).b, sg ⟨la, sa⟩ ⟨lb, sb⟩⟩) := ⟨A1, l1, c1, false, Ba, hide O1.out, L1, Y1, C1, hide (by rw [hsg3, ← congrArg Vc.b E1.out])⟩
  replace Ba := hb
  clear hb O1 L1 Y1 C1
  have HG3 := hide (show Gd l3 by have h := congrArg Vc.b E3.out; dsimp only at h; rw [h]; exact cnt_gd (v := ⟨la, sa⟩) Ya.out)
  have h03 : 0 < l3.length := HG3.out.pos
  have e3 : l3.length = (cnt ⟨la, sa⟩).b.length := by have h := congrArg Vc.b E3.out; dsimp only at h; rw [h]
  obtain ⟨A4, l4, c4, s4, hb, O4, L4, Y4, C4, E4⟩ : ∃ (A : Option Addr) (l : List Int) (c : Nat) (s : Bool), Hid (Box Nb A l.length c s w16) ∧ Hid (RQ w16 A l) ∧ Hid (l.length ≤ 4096) ∧ Hid (By l) ∧ Hid (l.length ≤ c ∧ c ≤ maxLen) ∧ Hid ((⟨l, s⟩ : Vc) = ⟨(cnt ⟨lb, sb⟩).b, sg ⟨la, sa⟩ ⟨lb, sb⟩⟩) := ⟨A2, l2, c2, false, Bb, hide O2.out, L2, Y2, C2, hide (by rw [hsg3, ← congrArg Vc.b E2.out])⟩
  replace Bb := hb
  clear hb O2 L2 Y2 C2
  have HG4 := hide (show Gd l4 by have h := congrArg Vc.b E4.out; dsimp only at h; rw [h]; exact cnt_gd (v := ⟨lb, sb⟩) Yb.out)
  have h04 : 0 < l4.length := HG4.out.pos
  have e4 : l4.length = (cnt ⟨lb, sb⟩).b.length := by have h := congrArg Vc.b E4.out; dsimp only at h; rw [h]
  obtain ⟨n, hn⟩ : ∃ n : Nat, n = max l3.length l4.length := ⟨_, rfl⟩
  have hn1 : n = wd ⟨la, sa⟩ ⟨lb, sb⟩ := by rw [hn, e3, e4]; rfl
  have hn2 : 0 < n ∧ n ≤ 128 := by rw [hn1]; exact wd_bd (a := ⟨la, sa⟩) (b := ⟨lb, sb⟩) Ya.out Yb.out
  have hmx : (if (l4.length : Int) > l3.length then (l4.length : Int) else l3.length) = (n : Int) := by rw [hn]; simp only [Nat.max_def]; split <;> split <;> omega
  have b3 := L3.out
  have b4 := L4.out
  refine reg_lit (wpl_r1 [(21, .pointer (some ⟨Na, 0, none⟩))] kr (wpl_ldsl Ba.out rfl kr rfl kr (wpl_r2 [(24, .pointer (some ⟨Nb, 0, none⟩)), (23, .int .i64 ((l3.length : Nat)))] kr (wpl_ldsl Bb.out rfl kr rfl kr (wpl_r1 [(26, .int .i64 ((l4.length : Nat)))] kr (wpl_val rfl kr (run_max (a := (l3.length : Int)) (b := (l4.length : Int)) rfl kr kr hmx) (wpl_r1 [(6, .int .i64 ((n : Nat)))] kr ?_)))))))
  refine wpl_end (then_normal (wp_seq (region_R (n := 6) (N := 8) kr kr kr kr kr kr (fun _ _ _ _ _ h => h) ?_)))
  intro F hQ
  have Ba0 := Ba
  have Bb0 := Bb
  have Bu0 := Bu
  have Bv0 := Bv
  refine anyR_ldvec (i := 0) (m' := 1) Ba0.out F hQ rfl rfl kr kr kr kr kr rfl kr (anyR_val (i := 1) (m' := 3) (v := .int .i64 ((n : Nat))) F hQ rfl rfl kr kr kr kr kr (fun _ _ => kr) (anyR_ldvec (i := 3) (m' := 11) Bb0.out F hQ rfl rfl kr kr kr kr kr rfl kr (anyR_val (i := 4) (m' := 27) (v := .int .i64 ((n : Nat))) F hQ rfl rfl kr kr kr kr kr (fun _ _ => kr) ?_)))
  refine anyR_call (i := 2) (m' := 31) rfl rfl kr kr kr kr kr ((rfit_any A3 l3 c3 s3 _ L3.out C3 (by exact O3.out) Y3.out n (by omega) h03).mono ?_)
  rintro e w17 ⟨l5, s5, A5, c5, E5, rfl, C5, O5, hb⟩
  refine ⟨_, rfl, hb, ?_⟩
  have n5u : Nu < w16.heap.size := Bu.out.lt
  have n5v : Nv < w16.heap.size := Bv.out.lt
  have k5 : w.heap.size ≤ w16.heap.size := hU.size
  have p5 : 0 < l5.length := by have h := congrArg (fun v : Vc => v.b.length) E5.out; dsimp only at h; rw [h, rsz_length]; exact hn2.1
  replace hb : Below w16.heap.size w16 w17 := Below.trans ((Below.refl _ _).drew) hb
  replace Oa := kQ Oa hb
  replace Ob := kQ Ob hb
  replace O3 := kQ O3 hb
  replace O4 := kQ O4 hb
  replace Ba := hide (Box.kept Ba.out hb)
  replace Bb := hide (Box.kept Bb.out hb)
  replace Bu := hide (Box.kept Bu.out hb)
  replace Bv := hide (Box.kept Bv.out hb)
  replace hU := kU hU hb
  clear hb
  have G5 : Gd l5 := by have h := congrArg Vc.b E5.out; dsimp only at h; rw [h]; exact (gd_rsz (v := ⟨l3, s3⟩) HG3.out hn2.1 hn2.2)
  have L5 := hide (show l5.length ≤ 4096 from Nat.le_trans G5.le (by decide))
  have Y5 := hide G5.by_
  clear G5
  refine anyR_call (i := 5) (m' := 63) rfl rfl kr kr kr kr kr ((rfit_any A4 l4 c4 s4 _ L4.out C4 O4.out Y4.out n (by omega) h04).mono ?_)
  rintro e w18 ⟨l6, s6, A6, c6, E6, rfl, C6, O6, hb⟩
  refine ⟨_, rfl, hb, ?_⟩
  have n6u : Nu < w17.heap.size := Bu.out.lt
  have n6v : Nv < w17.heap.size := Bv.out.lt
  have k6 : w.heap.size ≤ w17.heap.size := hU.size
  have p6 : 0 < l6.length := by have h := congrArg (fun v : Vc => v.b.length) E6.out; dsimp only at h; rw [h, rsz_length]; exact hn2.1
  have S56 : Hid (Sep A5 A6) := hide (sep_of O5.out O6.out p5 p6)
  replace Oa := kQ Oa hb
  replace Ob := kQ Ob hb
  replace O3 := kQ O3 hb
  replace O4 := kQ O4 hb
  replace O5 := kO O5 hb
  replace Ba := hide (Box.kept Ba.out hb)
  replace Bb := hide (Box.kept Bb.out hb)
  replace Bu := hide (Box.kept Bu.out hb)
  replace Bv := hide (Box.kept Bv.out hb)
  replace hU := kU hU hb
  clear hb
  have G6 : Gd l6 := by have h := congrArg Vc.b E6.out; dsimp only at h; rw [h]; exact (gd_rsz (v := ⟨l4, s4⟩) HG4.out hn2.1 hn2.2)
  have L6 := hide (show l6.length ≤ 4096 from Nat.le_trans G6.le (by decide))
  have Y6 := hide G6.by_
  clear G6
  refine anyR_e (anyE_stq (i := 6) (m' := 127) Bu.out rfl rfl kr kr kr kr rfl kr (A2 := A5) (m2 := l5.length) (c2 := c5) (s2 := s5) kr ?_)
  intro w19 hst hkeep
  replace Oa := hide (hst.rq Oa.out)
  replace Ob := hide (hst.rq Ob.out)
  replace O3 := hide (hst.rq O3.out)
  replace O4 := hide (hst.rq O4.out)
  replace O5 := hide (OwQ.std (m2 := 0) (c2 := 0) (A2 := none) (s2 := false) O5.out hst.bel n5u hkeep)
  replace O6 := hide (OwQ.std (m2 := 0) (c2 := 0) (A2 := none) (s2 := false) O6.out hst.bel n6u hkeep)
  replace Ba := hide (hst.ne Ba.out nq)
  replace Bb := hide (hst.ne Bb.out nq)
  replace Bv := hide (hst.ne Bv.out nq)
  replace Bu := hide hst.box
  replace hU := hU.trans (hst.bel hzu)
  clear hst hkeep
  refine anyE_stq (i := 7) (m' := 255) Bv.out rfl rfl kr kr kr kr rfl kr (A2 := A6) (m2 := l6.length) (c2 := c6) (s2 := s6) kr ?_
  intro w20 hst hkeep
  replace Oa := hide (hst.rq Oa.out)
  replace Ob := hide (hst.rq Ob.out)
  replace O3 := hide (hst.rq O3.out)
  replace O4 := hide (hst.rq O4.out)
  replace O5 := hide (OwQ.std (m2 := 0) (c2 := 0) (A2 := none) (s2 := false) O5.out hst.bel n5v hkeep)
  replace O6 := hide (OwQ.std (m2 := 0) (c2 := 0) (A2 := none) (s2 := false) O6.out hst.bel n6v hkeep)
  replace Ba := hide (hst.ne Ba.out nq)
  replace Bb := hide (hst.ne Bb.out nq)
  replace Bu := hide (hst.ne Bu.out nq)
  replace Bv := hide hst.box
  replace hU := hU.trans (hst.bel hzv)
  clear hst hkeep
  refine anyE_done kr ?_
  clear F hQ Ba0 Bb0 Bu0 Bv0
  refine then_normal (wp_ret ?_)
  have z5 : s5 = (sg ⟨la, sa⟩ ⟨lb, sb⟩) := (congrArg Vc.s E5.out).trans (congrArg Vc.s E3.out)
  have z6 : s6 = (sg ⟨la, sa⟩ ⟨lb, sb⟩) := (congrArg Vc.s E6.out).trans (congrArg Vc.s E4.out)
  refine ret_box2 Bu.out Bv.out rfl kr kr ?_
  exact ⟨l5, A5, c5, l6, A6, c6, hide ((congrArg Vc.b E5.out).trans (by rw [E3.out, hn1]; rfl)), hide ((congrArg Vc.b E6.out).trans (by rw [E4.out, hn1]; rfl)), (by show Ending.returned (.tuple #[vagg A5 l5.length c5 s5, vagg A6 l6.length c6 s6]) = .returned (.tuple #[vagg A5 l5.length c5 (sg ⟨la, sa⟩ ⟨lb, sb⟩), vagg A6 l6.length c6 (sg ⟨la, sa⟩ ⟨lb, sb⟩)]); rw [z5, z6]), C5, C6, hide (OwQ.low O5.out k5), hide (OwQ.low O6.out k6), S56, hU⟩
  have hsg3 : sg ⟨la, sa⟩ ⟨lb, sb⟩ = true := by rw [hsg, h1, h2] <;> rfl
  refine reg_lit (wpl_r1 [(11, .pointer (some ⟨Na, 1, none⟩))] kr (wpl_ldsg Ba.out rfl kr rfl kr (wpl_val rfl kr (run_not (a := s1) rfl kr (by rw [h1] <;> rfl)) (wpl_r2 [(15, .pointer (some ⟨Nb, 1, none⟩)), (14, .bool false)] kr (wpl_ldsg Bb.out rfl kr rfl kr (wpl_val rfl kr (run_not (a := s2) rfl kr (by rw [h2] <;> rfl)) (wpl_r1 [(18, .bool false)] kr ?_)))))))
  refine wpl_end (then_normal (wp_iff kr (wp_skip (then_normal (wp_seq ?_)))))
  obtain ⟨A3, l3, c3, s3, hb, O3, L3, Y3, C3, E3⟩ : ∃ (A : Option Addr) (l : List Int) (c : Nat) (s : Bool), Hid (Box Na A l.length c s w8) ∧ Hid (RQ w8 A l) ∧ Hid (l.length ≤ 4096) ∧ Hid (By l) ∧ Hid (l.length ≤ c ∧ c ≤ maxLen) ∧ Hid ((⟨l, s⟩ : Vc) = ⟨(cnt ⟨la, sa⟩).b, sg ⟨la, sa⟩ ⟨lb, sb⟩⟩) := ⟨A1, l1, c1, s1, Ba, hide O1.out, L1, Y1, C1, hide (by rw [h1, hsg3, ← congrArg Vc.b E1.out])⟩
  replace Ba := hb
  clear hb O1 L1 Y1 C1
  have HG3 := hide (show Gd l3 by have h := congrArg Vc.b E3.out; dsimp only at h; rw [h]; exact cnt_gd (v := ⟨la, sa⟩) Ya.out)
  have h03 : 0 < l3.length := HG3.out.pos
  have e3 : l3.length = (cnt ⟨la, sa⟩).b.length := by have h := congrArg Vc.b E3.out; dsimp only at h; rw [h]
  obtain ⟨A4, l4, c4, s4, hb, O4, L4, Y4, C4, E4⟩ : ∃ (A : Option Addr) (l : List Int) (c : Nat) (s : Bool), Hid (Box Nb A l.length c s w8) ∧ Hid (RQ w8 A l) ∧ Hid (l.length ≤ 4096) ∧ Hid (By l) ∧ Hid (l.length ≤ c ∧ c ≤ maxLen) ∧ Hid ((⟨l, s⟩ : Vc) = ⟨(cnt ⟨lb, sb⟩).b, sg ⟨la, sa⟩ ⟨lb, sb⟩⟩) := ⟨A2, l2, c2, s2, Bb, hide O2.out, L2, Y2, C2, hide (by rw [h2, hsg3, ← congrArg Vc.b E2.out])⟩
  replace Bb := hb
  clear hb O2 L2 Y2 C2
  have HG4 := hide (show Gd l4 by have h := congrArg Vc.b E4.out; dsimp only at h; rw [h]; exact cnt_gd (v := ⟨lb, sb⟩) Yb.out)
  have h04 : 0 < l4.length := HG4.out.pos
  have e4 : l4.length = (cnt ⟨lb, sb⟩).b.length := by have h := congrArg Vc.b E4.out; dsimp only at h; rw [h]
  obtain ⟨n, hn⟩ : ∃ n : Nat, n = max l3.length l4.length := ⟨_, rfl⟩
  have hn1 : n = wd ⟨la, sa⟩ ⟨lb, sb⟩ := by rw [hn, e3, e4]; rfl
  have hn2 : 0 < n ∧ n ≤ 128 := by rw [hn1]; exact wd_bd (a := ⟨la, sa⟩) (b := ⟨lb, sb⟩) Ya.out Yb.out
  have hmx : (if (l4.length : Int) > l3.length then (l4.length : Int) else l3.length) = (n : Int) := by rw [hn]; simp only [Nat.max_def]; split <;> split <;> omega
  have b3 := L3.out
  have b4 := L4.out
  refine reg_lit (wpl_r1 [(21, .pointer (some ⟨Na, 0, none⟩))] kr (wpl_ldsl Ba.out rfl kr rfl kr (wpl_r2 [(24, .pointer (some ⟨Nb, 0, none⟩)), (23, .int .i64 ((l3.length : Nat)))] kr (wpl_ldsl Bb.out rfl kr rfl kr (wpl_r1 [(26, .int .i64 ((l4.length : Nat)))] kr (wpl_val rfl kr (run_max (a := (l3.length : Int)) (b := (l4.length : Int)) rfl kr kr hmx) (wpl_r1 [(6, .int .i64 ((n : Nat)))] kr ?_)))))))
  refine wpl_end (then_normal (wp_seq (region_R (n := 6) (N := 8) kr kr kr kr kr kr (fun _ _ _ _ _ h => h) ?_)))
  intro F hQ
  have Ba0 := Ba
  have Bb0 := Bb
  have Bu0 := Bu
  have Bv0 := Bv
  refine anyR_ldvec (i := 0) (m' := 1) Ba0.out F hQ rfl rfl kr kr kr kr kr rfl kr (anyR_val (i := 1) (m' := 3) (v := .int .i64 ((n : Nat))) F hQ rfl rfl kr kr kr kr kr (fun _ _ => kr) (anyR_ldvec (i := 3) (m' := 11) Bb0.out F hQ rfl rfl kr kr kr kr kr rfl kr (anyR_val (i := 4) (m' := 27) (v := .int .i64 ((n : Nat))) F hQ rfl rfl kr kr kr kr kr (fun _ _ => kr) ?_)))
  refine anyR_call (i := 2) (m' := 31) rfl rfl kr kr kr kr kr ((rfit_any A3 l3 c3 s3 _ L3.out C3 (by exact O3.out) Y3.out n (by omega) h03).mono ?_)
  rintro e w21 ⟨l5, s5, A5, c5, E5, rfl, C5, O5, hb⟩
  refine ⟨_, rfl, hb, ?_⟩
  have n5u : Nu < w8.heap.size := Bu.out.lt
  have n5v : Nv < w8.heap.size := Bv.out.lt
  have k5 : w.heap.size ≤ w8.heap.size := hU.size
  have p5 : 0 < l5.length := by have h := congrArg (fun v : Vc => v.b.length) E5.out; dsimp only at h; rw [h, rsz_length]; exact hn2.1
  replace hb : Below w8.heap.size w8 w21 := Below.trans ((Below.refl _ _).drew) hb
  replace Oa := kQ Oa hb
  replace Ob := kQ Ob hb
  replace O3 := kQ O3 hb
  replace O4 := kQ O4 hb
  replace Ba := hide (Box.kept Ba.out hb)
  replace Bb := hide (Box.kept Bb.out hb)
  replace Bu := hide (Box.kept Bu.out hb)
  replace Bv := hide (Box.kept Bv.out hb)
  replace hU := kU hU hb
  clear hb
  have G5 : Gd l5 := by have h := congrArg Vc.b E5.out; dsimp only at h; rw [h]; exact (gd_rsz (v := ⟨l3, s3⟩) HG3.out hn2.1 hn2.2)
  have L5 := hide (show l5.length ≤ 4096 from Nat.le_trans G5.le (by decide))
  have Y5 := hide G5.by_
  clear G5
  refine anyR_call (i := 5) (m' := 63) rfl rfl kr kr kr kr kr ((rfit_any A4 l4 c4 s4 _ L4.out C4 O4.out Y4.out n (by omega) h04).mono ?_)
  rintro e w22 ⟨l6, s6, A6, c6, E6, rfl, C6, O6, hb⟩
  refine ⟨_, rfl, hb, ?_⟩
  have n6u : Nu < w21.heap.size := Bu.out.lt
  have n6v : Nv < w21.heap.size := Bv.out.lt
  have k6 : w.heap.size ≤ w21.heap.size := hU.size
  have p6 : 0 < l6.length := by have h := congrArg (fun v : Vc => v.b.length) E6.out; dsimp only at h; rw [h, rsz_length]; exact hn2.1
  have S56 : Hid (Sep A5 A6) := hide (sep_of O5.out O6.out p5 p6)
  replace Oa := kQ Oa hb
  replace Ob := kQ Ob hb
  replace O3 := kQ O3 hb
  replace O4 := kQ O4 hb
  replace O5 := kO O5 hb
  replace Ba := hide (Box.kept Ba.out hb)
  replace Bb := hide (Box.kept Bb.out hb)
  replace Bu := hide (Box.kept Bu.out hb)
  replace Bv := hide (Box.kept Bv.out hb)
  replace hU := kU hU hb
  clear hb
  have G6 : Gd l6 := by have h := congrArg Vc.b E6.out; dsimp only at h; rw [h]; exact (gd_rsz (v := ⟨l4, s4⟩) HG4.out hn2.1 hn2.2)
  have L6 := hide (show l6.length ≤ 4096 from Nat.le_trans G6.le (by decide))
  have Y6 := hide G6.by_
  clear G6
  refine anyR_e (anyE_stq (i := 6) (m' := 127) Bu.out rfl rfl kr kr kr kr rfl kr (A2 := A5) (m2 := l5.length) (c2 := c5) (s2 := s5) kr ?_)
  intro w23 hst hkeep
  replace Oa := hide (hst.rq Oa.out)
  replace Ob := hide (hst.rq Ob.out)
  replace O3 := hide (hst.rq O3.out)
  replace O4 := hide (hst.rq O4.out)
  replace O5 := hide (OwQ.std (m2 := 0) (c2 := 0) (A2 := none) (s2 := false) O5.out hst.bel n5u hkeep)
  replace O6 := hide (OwQ.std (m2 := 0) (c2 := 0) (A2 := none) (s2 := false) O6.out hst.bel n6u hkeep)
  replace Ba := hide (hst.ne Ba.out nq)
  replace Bb := hide (hst.ne Bb.out nq)
  replace Bv := hide (hst.ne Bv.out nq)
  replace Bu := hide hst.box
  replace hU := hU.trans (hst.bel hzu)
  clear hst hkeep
  refine anyE_stq (i := 7) (m' := 255) Bv.out rfl rfl kr kr kr kr rfl kr (A2 := A6) (m2 := l6.length) (c2 := c6) (s2 := s6) kr ?_
  intro w24 hst hkeep
  replace Oa := hide (hst.rq Oa.out)
  replace Ob := hide (hst.rq Ob.out)
  replace O3 := hide (hst.rq O3.out)
  replace O4 := hide (hst.rq O4.out)
  replace O5 := hide (OwQ.std (m2 := 0) (c2 := 0) (A2 := none) (s2 := false) O5.out hst.bel n5v hkeep)
  replace O6 := hide (OwQ.std (m2 := 0) (c2 := 0) (A2 := none) (s2 := false) O6.out hst.bel n6v hkeep)
  replace Ba := hide (hst.ne Ba.out nq)
  replace Bb := hide (hst.ne Bb.out nq)
  replace Bu := hide (hst.ne Bu.out nq)
  replace Bv := hide hst.box
  replace hU := hU.trans (hst.bel hzv)
  clear hst hkeep
  refine anyE_done kr ?_
  clear F hQ Ba0 Bb0 Bu0 Bv0
  refine then_normal (wp_ret ?_)
  have z5 : s5 = (sg ⟨la, sa⟩ ⟨lb, sb⟩) := (congrArg Vc.s E5.out).trans (congrArg Vc.s E3.out)
  have z6 : s6 = (sg ⟨la, sa⟩ ⟨lb, sb⟩) := (congrArg Vc.s E6.out).trans (congrArg Vc.s E4.out)
  refine ret_box2 Bu.out Bv.out rfl kr kr ?_
  exact ⟨l5, A5, c5, l6, A6, c6, hide ((congrArg Vc.b E5.out).trans (by rw [E3.out, hn1]; rfl)), hide ((congrArg Vc.b E6.out).trans (by rw [E4.out, hn1]; rfl)), (by show Ending.returned (.tuple #[vagg A5 l5.length c5 s5, vagg A6 l6.length c6 s6]) = .returned (.tuple #[vagg A5 l5.length c5 (sg ⟨la, sa⟩ ⟨lb, sb⟩), vagg A6 l6.length c6 (sg ⟨la, sa⟩ ⟨lb, sb⟩)]); rw [z5, z6]), C5, C6, hide (OwQ.low O5.out k5), hide (OwQ.low O6.out k6), S56, hU⟩
end
section
open Go.RowKit
set_option maxRecDepth 100000
structure PutQ (w W : World) (g n : Nat) (F : Nat → Int) (wr : World) : Prop where
  row : RowQ wr g n F
  bel : Below w.heap.size w wr
  far : ∀ b, b ≠ g → wr.heap[b]? = W.heap[b]?
  size : wr.heap.size = W.heap.size
theorem PutQ.start {w W : World} {g n : Nat} {F : Nat → Int} (h : RowQ W g n F) (hb : Below w.heap.size w W) : PutQ w W g n F W := ⟨h, hb, fun _ _ => rfl, rfl⟩
theorem PutQ.congr {w W wr : World} {g n : Nat} {F G : Nat → Int} (h : PutQ w W g n F wr) (k : ∀ i, i < n → F i = G i) : PutQ w W g n G wr := ⟨h.row.congr k, h.bel, h.far, h.size⟩
theorem PutQ.step {w W wr : World} {g n : Nat} {F : Nat → Int} (h : PutQ w W g n F wr) (hg : w.heap.size ≤ g) (i : Nat) (v : Int) : PutQ w W g n (fun j => if j = i then v else F j) (wr.setCell ⟨g, i, none⟩ (.int .u8 v)) where
  row := h.row.set_ i v
  bel := h.bel.setCell (by exact hg) _
  far := fun b hb => by
    rw [← h.far b hb]
    exact heap_setCell_other wr ⟨g, i, none⟩ b _ hb
  size := by rw [← h.size]; simp
theorem PutQ.cell {w W wr : World} {g n : Nat} {F : Nat → Int} (h : PutQ w W g n F wr) {p : Addr} (hp : p.block ≠ g) : wr.cell? p = W.cell? p := by
  unfold World.cell?
  rw [h.far _ hp]
theorem PutQ.frozen {w W wr : World} {g n : Nat} {F : Nat → Int} (h : PutQ w W g n F wr) {p : Addr} (hp : p.block ≠ g) : wr.frozen? p = W.frozen? p := by
  unfold World.frozen?
  rw [h.far _ hp]
end
section
open Go.RowKit
set_option maxRecDepth 100000
set_option linter.unusedSimpArgs false
set_option linter.unusedVariables false
theorem rd_snoc (f : Int → Int → Int) (l : List Int) (n : Nat) : rd f l (n + 1) = f (rd f l n) (qt l (n + 1)) := rfl
def orF (l : List Int) : Nat → Int
  | 0 => 0
  | n + 1 => mOr (orF l n) (qt l n)
theorem orF_rd (l : List Int) : ∀ n, orF l (n + 1) = rd mOr l n
  | 0 => by
    show mOr 0 (qt l 0) = mBuf (qt l 0)
    unfold mOr mBuf
    by_cases h1 : qt l 0 = 1
    · simp [h1]
    · by_cases h0 : qt l 0 = 0
      · simp [h0]
      · simp [h0, h1]
  | n + 1 => by rw [rd_snoc, ← orF_rd l n]; rfl
set_option maxHeartbeats 1000000 in
theorem rtruth_any' (A : Option Addr) (a : List Int) (c : Nat) (s : Bool) (w : World) (ha : a.length ≤ 4096) (hca : Hid (a.length ≤ c ∧ c ≤ maxLen)) (hA : RQ w A a) (ya : By a) :
    Calls Tryz.prog 80 #[.agg #[.slice A a.length c, .bool s]] w (Mk (.int .u8 (tr ⟨a, s⟩)) w) := by
  have HA := hide hA
  have LA := hide ha
  have YA := hide ya
  clear hA ha ya
  go_enter Tryz.func80, Tryz.ntmps80
  go_wp2_with fail
  refine (rnorm_any' A a c s _ LA.out hca (HA.out.below belo) YA.out).mono ?_
  rintro e w1 ⟨l1, s1, A1, c1, E1, rfl, C1, O1, hb⟩
  replace O1 := hide (O1.out.base (show w.heap.size + 1 ≤ _ by first | omega | (simp; omega) | (simp; done)))
  have hB1 : Below w.heap.size w w1 := Below.trans belo (hb.mono as4)
  obtain ⟨kc1, kf1⟩ := bcell hb
  have hz1 := hb.size
  (try simp at hz1)
  have n1_0 : w.heap.size < w1.heap.size := by omega
  clear hb
  have G1 : Gd l1 := by have h := cnt_gd (v := ⟨a, s⟩) YA.out; rw [← E1.out] at h; exact h
  have HG1 := hide G1
  have u1 := G1.le
  have p1 := G1.pos
  clear G1
  have mm0_0 : w1.cell? ⟨w.heap.size, 0, none⟩ = some (.slice A a.length c) := (kc1 _ _ as0).trans as1
  have vv0_0 : w1.frozen? ⟨w.heap.size, 0, none⟩ = false := (kf1 _ _ as0).trans as1
  have mm0_1 : w1.cell? ⟨w.heap.size, 1, none⟩ = some (.bool s) := (kc1 _ _ as0).trans as1
  have vv0_1 : w1.frozen? ⟨w.heap.size, 1, none⟩ = false := (kf1 _ _ as0).trans as1
  clear kc1 kf1
  go_wp2_with fail
  obtain ⟨V1, hV⟩ : ∃ x, x = ((w1.setCell ⟨w.heap.size, 0, none⟩ (.slice A1 l1.length c1)).setCell ⟨w.heap.size, 1, none⟩ (.bool s1)) := ⟨_, rfl⟩
  rw [← hV]
  have hBV1 : Below w.heap.size w V1 := by rw [hV]; exact belo
  have qV1_0 : V1.cell? ⟨w.heap.size, 0, none⟩ = some (.slice A1 l1.length c1) := by rw [hV]; (repeat (first | with_reducible refine cset_eq' ?_ | with_reducible refine cset_ne (by first | (simp; done) | (simp; omega)) ?_ | with_reducible refine cset_ex ?_ | exact ⟨_, by assumption⟩ | assumption))
  have jV1_0 : V1.frozen? ⟨w.heap.size, 0, none⟩ = false := by rw [hV]; (repeat (first | with_reducible refine fset ?_ | assumption))
  have qV1_1 : V1.cell? ⟨w.heap.size, 1, none⟩ = some (.bool s1) := by rw [hV]; (repeat (first | with_reducible refine cset_eq' ?_ | with_reducible refine cset_ne (by first | (simp; done) | (simp; omega)) ?_ | with_reducible refine cset_ex ?_ | exact ⟨_, by assumption⟩ | assumption))
  have jV1_1 : V1.frozen? ⟨w.heap.size, 1, none⟩ = false := by rw [hV]; (repeat (first | with_reducible refine fset ?_ | assumption))
  have nV1_0 : w.heap.size < V1.heap.size := by rw [hV]; simp; omega
  replace O1 := hide (show OwQ (w.heap.size + 1) V1 A1 l1 by rw [hV]; (repeat (first | with_reducible exact O1.out | with_reducible refine OwQ.far ?_ as3 _ | with_reducible refine OwQ.allc ?_ _ | with_reducible refine OwQ.drew ?_ | with_reducible refine OwQ.drewN ?_ _)))
  clear hV
  have HR := hide (show orF l1 l1.length = tr ⟨a, s⟩ by
    have h : tr ⟨a, s⟩ = rd mOr l1 (l1.length - 1) := by unfold tr red; rw [← E1.out]
    obtain ⟨m, hm⟩ : ∃ m, l1.length = m + 1 := ⟨l1.length - 1, by omega⟩
    rw [h, hm, orF_rd, Nat.add_sub_cancel])
  go_loopw [3, 4] (fun v i wr => ∃ k : Nat, k ≤ l1.length ∧ v = .int .u8 (orF l1 k) ∧ i = .int .i64 k ∧ wr = V1) (fun _ i _ => l1.length - (intOf i).toNat)
  case atStart => exact ⟨0, Nat.zero_le _, rfl, rfl, rfl⟩
  case round =>
    obtain ⟨k, hk, rfl, rfl, rfl⟩ := hrel
    obtain ⟨y, hy⟩ : ∃ y, y = orF l1 k := ⟨_, rfl⟩
    have HY := hide hy
    by_cases hlt : k < l1.length
    · rw [← hy]
      obtain ⟨ad, rfl, hlt1, hc⟩ := O1.out.rd.at_ hlt
      have hcall := hide (ror_q y (qt l1 k))
      clear hy
      go_wp2_with (go_at_call 75; (with_reducible refine (hcall.out _).mono ?_); rintro e w' ⟨rfl, rfl⟩)
      go_roundw
      case rel => exact ⟨k + 1, by omega, by rw [HY.out]; rfl, by go_num, by first | trivial | rfl⟩
      case measure => simp [intOf]; omega
    · have e : k = l1.length := by omega
      subst e
      rw [HR.out] at hy ⊢
      go_wp2
      go_ret
      exact ⟨rfl, belo⟩
end
section
open Go.RowKit
set_option maxRecDepth 100000
set_option linter.unusedSimpArgs false
set_option linter.unusedVariables false
theorem OwQ.box {B N m c : Nat} {w V : World} {A AA : Option Addr} {l : List Int} {s : Bool} (h : OwQ B w A l) (b : Box N AA m c s w) (hk : ∀ g, g ≠ N → V.heap[g]? = w.heap[g]?) : OwQ B V A l := fun hn => by
  obtain ⟨g, e, hB, hr⟩ := h hn
  have hg : g ≠ N := fun e => by
    subst e
    have h1 := hr.cell hn
    rw [b.c0] at h1
    cases h1
  refine ⟨g, e, hB, ?_⟩
  obtain ⟨cs, hc, hi⟩ := hr
  exact ⟨cs, by rw [hk g hg]; exact hc, hi⟩
theorem Box.off {N m c g n : Nat} {w : World} {AA : Option Addr} {s : Bool} {F : Nat → Int} (b : Box N AA m c s w) (hr : RowQ w g n F) (hn : 0 < n) : N ≠ g := fun e => by
  subst e
  have h1 := hr.cell hn
  rw [b.c0] at h1
  cases h1
theorem PutQ.box {w W wr : World} {g n N m c : Nat} {F : Nat → Int} {AA : Option Addr} {s : Bool} (h : PutQ w W g n F wr) (b : Box N AA m c s W) (hN : N ≠ g) : Box N AA m c s wr :=
  ⟨by rw [h.size]; exact b.lt, (h.cell (p := ⟨N, 0, none⟩) hN).trans b.c0, (h.cell (p := ⟨N, 1, none⟩) hN).trans b.c1, (h.frozen (p := ⟨N, 0, none⟩) hN).trans b.f0, (h.frozen (p := ⟨N, 1, none⟩) hN).trans b.f1⟩
theorem PutQ.drew {w W wr : World} {g n : Nat} {F : Nat → Int} (h : PutQ w W g n F wr) : PutQ w W g n F wr.drew := ⟨h.row, h.bel.trans ((Below.refl _ _).drew), h.far, h.size⟩
section
variable {Q : Exit → Act → World → Prop} {ops : Array Oper} {o : Oper} {rest : List Oper} {x y : Operand} {w W : World} {A A2 : Option Addr} {N m c m2 c2 n d : Nat} {s s2 q : Bool} {E : Env}
theorem wpl_stk (B : Box N A m c s w) (hd : o.dst = none) (hw : wnt ops n E o = true) (ho : o.op = .store 24 x y) (hx : evl n E x = .pointer (some ⟨N, 0, none⟩)) (hy : evl n E y = vagg A2 m2 c2 s2)
    (h : ∀ V : World, Std N A2 m2 c2 s2 w V → (∀ g, g ≠ N → V.heap[g]? = w.heap[g]?) → WL Tryz.prog ops Q rest n E V) : WL Tryz.prog ops Q (o :: rest) n E w :=
  wpl_none hd hw (run_stbox ho hx hy B) (h _ ⟨B.st, fun b hne => b.st_ne hne, fun r => r.st B, fun hb => st_below hb⟩ (fun g hg => by rw [heap_setCell_other _ _ _ _ hg, heap_setCell_other _ _ _ _ hg]))
theorem run_stbit {ρ : Operand → Value} {g i cnt_ : Nat} {F : Nat → Int} {z : Int} (ho : o.op = .store 65 x y) {p : Addr} (hx : ρ x = .pointer (some p)) (hp : p = ⟨g, i, none⟩) (hy : ρ y = .int .u8 z) (hr : RowQ w g cnt_ F) (hi : i < cnt_) :
    (execOp ρ o).run Tryz.prog w = .ok .skip (w.setCell ⟨g, i, none⟩ (.int .u8 z)) := by
  subst hp
  have h1 := hr.cell hi
  have h3 := hr.free i
  unfold execOp
  rw [ho]
  simp only [hx, hy]
  simp [go_sem, h1, h3]
theorem gstep_call {P : Program} {S : World → Prop} {k mk fuel i m' : Nat} {f : FuncId} {args : Array Value} {v : Value} (hi : ops[i]? = some o) (hd : o.dst = some d) (hin : Nat.blt i n = true) (hw : wnt ops k E o = true) (hm : Nat.lor mk (Nat.shiftLeft 1 i) = m')
    (hr : (execOp (evl k E) o).run P w = .ok (.enter f args) w) (hc : Calls P f args w fun e w' => e = .returned v ∧ w' = w) (h : ganyR P ops Q S n fuel m' k ((d, v) :: E) w) : GStep P ops Q S n fuel mk k E w i := fun hS inv hj => by
  have hin' : i < n := Nat.le_of_ble_eq_true hin
  refine wpOp_step hi fun K hK => ?_
  rw [wanted_sl, hw, if_pos rfl]
  unfold Oper.wp
  rw [eval_sl, hr, Oper.upon_enter]
  refine hc.mono ?_
  rintro e w' ⟨rfl, rfl⟩
  show K ((sl k E).put o.dst v) _
  refine hK _ _ ⟨fun _ => hS, ?_⟩
  have inv' := inv.set hj hin'
  rw [lsm_set, show mk ||| 1 <<< i = m' from hm] at inv' ⊢
  rw [hd, put_sl]
  exact h hS inv'
end
theorem rbalance_s (s1 s2 : Bool) (Aa Ab : Option Addr) (la lb : List Int) (ca cb : Nat) (sa sb : Bool) (w : World) (h1 : s1 = sg ⟨la, sa⟩ ⟨lb, sb⟩) (h2 : s2 = sg ⟨la, sa⟩ ⟨lb, sb⟩) (ha : la.length ≤ 4096) (hb : lb.length ≤ 4096) (hca : Hid (la.length ≤ ca ∧ ca ≤ maxLen)) (hcb : Hid (lb.length ≤ cb ∧ cb ≤ maxLen)) (hra : RQ w Aa la) (hrb : RQ w Ab lb) (ya : By la) (yb : By lb) :
    Calls Tryz.prog 86 #[.agg #[.slice Aa la.length ca, .bool sa], .agg #[.slice Ab lb.length cb, .bool sb]] w fun e w' =>
      (∃ p P c q Q d, Hid (p = blA ⟨la, sa⟩ ⟨lb, sb⟩) ∧ Hid (q = blB ⟨la, sa⟩ ⟨lb, sb⟩) ∧ e = .returned (.tuple #[.agg #[.slice P p.length c, .bool s1], .agg #[.slice Q q.length d, .bool s2]]) ∧ Hid (p.length ≤ c ∧ c ≤ maxLen) ∧ Hid (q.length ≤ d ∧ d ≤ maxLen) ∧ Hid (OwQ w.heap.size w' P p) ∧ Hid (OwQ w.heap.size w' Q q) ∧ Hid (Sep P Q)) ∧ Below w.heap.size w w' := by
  subst h1
  subst h2
  refine (rbalance_any Aa Ab la lb ca cb sa sb w ha hb hca hcb hra hrb ya yb).mono ?_
  rintro e w' ⟨p, P, c, q, Q, d, k1, k2, k3, k4, k5, k6, k7, k8, k9⟩
  exact ⟨⟨p, P, c, q, Q, d, k1, k2, k3, k4, k5, k6, k7, k8⟩, k9⟩
end
section
open Go Go.RowKit
set_option maxRecDepth 100000
set_option linter.unusedSimpArgs false
set_option linter.unusedVariables false
theorem Rd.bitB {wo W : World} {A : Option Addr} {l : List Bool} (h : Rd wo A l) (hV : Below wo.heap.size wo W) {B : Nat} (hB : wo.heap.size ≤ B) {i : Nat} (hi : i < l.length) : ∃ ad, A = some ad ∧ ∀ w', Below B W w' → w'.cell? (ad.add i) = some (.bool (bt l i)) := by
  obtain ⟨ad, e, hl, hc⟩ := h (by omega)
  exact ⟨ad, e, fun w' hb => (hb.cell (p := ad.add i) (by rw [block_of_add]; omega)).trans ((hV.cell (p := ad.add i) (by rw [block_of_add]; exact hl)).trans (hc i hi))⟩
section
variable {P : Program} {ρ : Operand → Value} {o : Oper} {x y : Operand} {w : World} {t p : TypeId} {a b : Int}
theorem run_ixb {A : Option Addr} {ad : Addr} {m cc k : Nat} (ho : o.op = .indexAddr 82 x y) (hx : ρ x = .slice A m cc) (hA : A = some ad) (hy : ρ y = .int .i64 k) (hk : k < m) : (execOp ρ o).run Tryz.prog w = .ok (.value (.pointer (some (ad.add k)))) w := by
  subst hA
  have h1 : (0 : Int) ≤ k := by omega
  have h2 : (k : Int) < m := by omega
  unfold execOp
  rw [ho]
  simp only [hx, hy]
  simp [go_sem, h1, h2, hk]
theorem run_ldb {ad : Addr} {z : Bool} (ho : o.op = .load 4 x) (hx : ρ x = .pointer (some ad)) (hc : w.cell? ad = some (.bool z)) : (execOp ρ o).run Tryz.prog w = .ok (.value (.bool z)) w := by
  unfold execOp
  rw [ho]
  simp only [hx]
  simp [go_sem, hc]
theorem run_gtr (ho : o.op = .binOp .gtr t x y p) (hx : ρ x = .int .i64 a) (hy : ρ y = .int .i64 b) {q : Bool} (hc : decide (a > b) = q) : (execOp ρ o).run P w = .ok (.value (.bool q)) w := by
  subst hc
  unfold execOp
  rw [ho]
  simp only [hx, hy]
  rfl
theorem run_geq (ho : o.op = .binOp .geq t x y p) (hx : ρ x = .int .i64 a) (hy : ρ y = .int .i64 b) {q : Bool} (hc : decide (a ≥ b) = q) : (execOp ρ o).run P w = .ok (.value (.bool q)) w := by
  subst hc
  unfold execOp
  rw [ho]
  simp only [hx, hy]
  rfl
end
section
variable {P : Program} {Q : Exit → Act → World → Prop} {ops : Array Oper} {o o2 : Oper} {rest : List Oper} {x y x0 : Operand} {w W : World} {n d d2 k m fuel i m' B c N : Nat} {E : Env} {A : Option Addr} {l : List Int} {z : Int} {s : Bool} {S : World → Prop} {ρ : Operand → Value}
theorem Box.drewq {N n c : Nat} {A : Option Addr} {s : Bool} {w w' : World} (h : Box N A n c s w) (e : w' = w.drew) : Box N A n c s w' := by subst e; exact h.drew'
theorem RQ.keptB {w w' : World} {A : Option Addr} {l : List Int} {wo : World} (h : RQ wo A l) (h1 : Below wo.heap.size wo w) : RQ w A l := h.below h1
end
theorem RetE.fail {e0 : Int} {v0 : Vc} {w w' : World} (h : e0 ≠ 0) (hb : Below w.heap.size w w') : RetE e0 v0 w (.returned (.tuple #[vagg none 0 0 false, .int .i64 e0])) w' :=
  ⟨[], false, none, 0, hide (by rw [if_neg h]; exact ⟨rfl, rfl⟩), rfl, hide ⟨Nat.le_refl _, by simp [maxLen]⟩, hide (fun h => absurd h (by simp)), hb⟩
def vcell (x : Va) : List Value := [.slice x.1 x.2.1.length x.2.2.1, .bool x.2.2.2]
def vcells (vs : List Va) : List Value := vs.flatMap vcell
structure OwnR (B : Nat) (v : Value) (vs : List Va) (w : World) : Prop where
  own : w.ownsRow B 24 2 v vs.length (vcells vs)
theorem OwnR.nil (w : World) (B : Nat) : OwnR B (.slice none 0 0) [] w := ⟨World.ownsRow_nil _ _ _ _⟩
section
variable {Q : Exit → Act → World → Prop} {ops : Array Oper} {o o2 : Oper} {rest : List Oper} {x y x0 : Operand} {w : World} {n d d2 B : Nat} {E : Env} {vs : List Va} {u : Va} {v : Value}
end
theorem vcells_get (vs : List Va) : ∀ i (h : i < vs.length), (vcells vs)[i * 2]? = some (.slice vs[i].1 vs[i].2.1.length vs[i].2.2.1) ∧ (vcells vs)[i * 2 + 1]? = some (.bool vs[i].2.2.2) := by
  induction vs with
  | nil => intro i h; simp at h
  | cons x l ih =>
    intro i h
    rcases i with _ | i
    · exact ⟨rfl, rfl⟩
    · have h1 := ih i (by simpa using h)
      have e0 : (i + 1) * 2 = i * 2 + 2 := by omega
      have e1 : vcells (x :: l) = .slice x.1 x.2.1.length x.2.2.1 :: .bool x.2.2.2 :: vcells l := rfl
      rw [e1, e0]
      exact h1
theorem OwnR.row {B : Nat} {v : Value} {vs : List Va} {w : World} (h : OwnR B v vs w) (h0 : 0 < vs.length) : ∃ g c, v = .slice (some ⟨g, 0, none⟩) vs.length c ∧ B ≤ g ∧ g < w.heap.size ∧
    (∀ i (h : i < vs.length), w.cell? ⟨g, i * 2, none⟩ = some (.slice vs[i].1 vs[i].2.1.length vs[i].2.2.1)) ∧ (∀ i (h : i < vs.length), w.cell? ⟨g, i * 2 + 1, none⟩ = some (.bool vs[i].2.2.2)) := by
  rcases h.own.2 with ⟨_, h2⟩ | ⟨g, cap, cur, hv, hB, hg, hn, hc, hs, hx⟩
  · omega
  · have hat : ∀ j, j < vs.length * 2 → w.cell? ⟨g, j, none⟩ = (vcells vs)[j]? := fun j hj => by
      rw [cell_of_row w g j _ _ _ hg, ← hx, List.getElem?_take, if_pos hj, Array.getElem?_toList]
    refine ⟨g, cap, hv, hB, lt_of_block hg, fun i hi => ?_, fun i hi => ?_⟩
    · rw [hat _ (by omega)]; exact (vcells_get vs i hi).1
    · rw [hat _ (by omega)]; exact (vcells_get vs i hi).2
end
section
open Go.RowKit
set_option maxRecDepth 100000
set_option linter.unusedSimpArgs false
set_option linter.unusedVariables false
set_option maxHeartbeats 4000000 in
theorem rfromb_any (Al : Option Addr) (ll : List Bool) (cl : Nat) (s : Bool) (w : World) (hn : ll.length ≤ 4096) (hA : Rd w Al ll) :
    Calls Tryz.prog 98 #[.slice Al ll.length cl, .bool s] w (RetC (· = ⟨fb ll, s⟩) w) := by
  have HA := hide hA
  clear hA
  obtain ⟨F, hF⟩ : ∃ F : Nat → Int, F = fun i => mFrom (bt ll i) := ⟨_, rfl⟩
  have hFi : ∀ i, F i = mFrom (bt ll i) := fun i => by rw [hF]
  have hR : ql ll.length F = fb ll := by rw [hF]; rfl
  clear hF
  have hU : Below w.heap.size w w := Below.refl _ _
  refine calls_sl (l := [.slice Al ll.length cl, .bool s]) 26 Tryz.func98 rfl kr (by simp) (wp_seq (reg_lit (wpl_al rfl kr rfl ?_)))
  intro w1 Nr Br hNr hb
  replace Br := hide Br
  have hzr : w.heap.size ≤ Nr := Nat.le_trans hU.size hNr
  clear hNr
  replace hU := kU hU hb
  clear hb
  refine sx_n (wpl_r2 [(8, .agg #[.slice none 0 0, .bool s]), (7, .bool s)] kr (wpl_made (A := none) (m := 0) (c := 0) (s := s) rfl rfl rfl rfl rfl rfl (fun _ => kr) (fun _ => kr) ?_))
  intro wz No Bo hNo hV
  have hnr : Nr < No + 1 := by have := Br.out.lt; omega
  refine wpl_end (then_normal (wp_seq (wp_seq (reg_lit (wpl_r1 [(6, .int .i64 0)] kr (wpl_end (then_normal ?_)))))))
  refine wp_block (loop_r (ll.length + 1) ?_)
  refine loop_inv (N := ll.length) (fun k E W => Kp [(6, .int .i64 (k : Nat)), (0, .slice Al ll.length cl), (1, .bool s), (4, .pointer (some ⟨Nr, 0, none⟩)), (5, .pointer (some ⟨No, 0, none⟩))] E ∧ Below w1.heap.size w1 W ∧ ∃ A c, Box No A (ql k F).length c s W ∧ OwnV (No + 1) A (ql k F) c W) ?_ _ 0 _ _ (Nat.zero_le _) (by omega) ⟨Kp_c kr (Kp_c kr (Kp_c kr (Kp_c kr (Kp_c kr (Kp_n))))), hV, none, 0, Bo, OwnV.nil _ _⟩
  clear hV Bo
  intro k E W next hk hI hnext
  obtain ⟨hKp, hV, Ao, co, Bo, Ho⟩ := hI
  obtain ⟨lo, hlo⟩ : ∃ lo, lo = ql k F := ⟨_, rfl⟩
  rw [← hlo] at Bo Ho
  replace Bo := hide Bo
  replace Ho := hide Ho
  have hlk : lo.length = k := by rw [hlo, ql_length]
  have hlo4 : lo.length ≤ 4096 := by omega
  have hB : No + 1 ≤ W.heap.size := Bo.out.lt
  refine wp_keep _ hKp (fun X => ?_)
  clear hKp
  refine wp_seq (wp_seq ?_)
  rcases Nat.lt_or_ge k ll.length with hlt | hge
  refine reg_lit (wpl_r3 [(11, .int .i64 ((ll.length : Nat))), (10, .slice Al ll.length cl), (9, .int .i64 ((k : Nat)))] kr (wpl_val rfl kr (run_lss (a := (k : Int)) (b := (ll.length : Int)) rfl kr kr (decide_eq_true (by omega))) (wpl_end (then_normal (wp_ift kr (wp_skip (then_normal ?_)))))))
  refine wp_seq (wp_block ?_)
  have hz : lo ++ [mFrom (bt ll k)] = ql (k + 1) F := by rw [ql_snoc, ← hlo, hFi]
  obtain ⟨ad, hA, hc⟩ := Rd.bitB (HA.out.below hU) hV (B := No + 1) (by omega) hlt
  refine gregion (n := 10) (N := 11) (fun x => Below (No + 1) W x) kr kr kr kr kr kr (Below.refl _ _).drew (fun _ _ _ _ _ h => h) ?_
  intro Fr hQ
  refine gany_val (i := 0) (m' := 1) (v := .pointer (some ⟨No, 0, none⟩)) Fr hQ rfl rfl kr kr kr kr kr (fun _ hb => by kernel_rfl) ?_
  refine gany_val (i := 1) (m' := 3) (v := .slice Ao lo.length co) Fr hQ rfl rfl kr kr kr kr kr (fun _ hb => run_ldsl rfl kr (Box.keptB Bo.out hb (Nat.lt_succ_self _))) ?_
  refine gany_val (i := 2) (m' := 7) (v := .slice Al ll.length cl) Fr hQ rfl rfl kr kr kr kr kr (fun _ hb => by kernel_rfl) (gany_val (i := 3) (m' := 15) (v := .int .i64 ((k : Nat))) Fr hQ rfl rfl kr kr kr kr kr (fun _ hb => by kernel_rfl) (gany_val (i := 4) (m' := 31) (v := .pointer (some (ad.add (k : Nat)))) Fr hQ rfl rfl kr kr kr kr kr (fun _ hb => run_ixb (k := k) (m := ll.length) (cc := cl) rfl kr hA kr hlt) (gany_val (i := 5) (m' := 63) (v := .bool (bt ll k)) Fr hQ rfl rfl kr kr kr kr kr (fun _ hb => run_ldb rfl kr (hc _ hb)) (gany_one (i := 6) kr (gstep_call (m' := 127) rfl rfl kr kr kr kr (rfrom_q (bt ll k) _) (gany_one (i := 7) kr (gstep_app (j := 8) (m' := 255) (j' := 511) (z := (mFrom (bt ll k))) Ho.out.drew' W hB hlo4 (fun _ hb h => h.trans (hb.mono hB)) (fun _ _ hb h => h.trans hb) rfl rfl kr kr kr rfl kr kr rfl rfl kr rfl kr rfl (fun _ => kr) (fun _ => kr) ?_)))))))
  intro V A2 c2 Hv hb
  replace hb : Below (No + 1) W V := ((Below.refl _ _).drew).trans hb
  refine gany_val (i := 9) (m' := 1023) (v := .pointer (some ⟨No, 0, none⟩)) Fr hQ rfl rfl kr kr kr kr kr (fun _ hb => by kernel_rfl) (gany_e ?_)
  refine gany_none (i := 10) (m' := 2047) (w' := V.setCell ⟨No, 0, none⟩ (.slice A2 (lo ++ [(mFrom (bt ll k))]).length c2)) rfl rfl kr kr kr kr (run_stsl rfl kr kr (Bo.out.keptB hb (Nat.lt_succ_self _))) ?_
  refine gany_done kr ?_
  have HS := fit_next hV hNo Bo.out hb Hv hz
  clear Fr hQ
  refine block_normal (then_normal (reg_lit (wpl_r1 [(13, .int .i64 ((k : Nat)))] kr (wpl_val rfl kr (run_add (a := (k : Int)) (b := 1) (c := ((k + 1 : Int) : Int)) rfl kr kr (by omega) (by omega) (by omega)) (wpl_r1 [(6, .int .i64 (((k + 1 : Nat) : Int)))] kr (wpl_end ?_))))))
  refine then_normal (hnext _ _ hlt ⟨Kp_c kr (Kp_c kr (Kp_c kr (Kp_c kr (Kp_c kr (Kp_n))))), HS⟩)
  refine reg_lit (wpl_r3 [(11, .int .i64 ((ll.length : Nat))), (10, .slice Al ll.length cl), (9, .int .i64 ((k : Nat)))] kr (wpl_val rfl kr (run_lss (a := (k : Int)) (b := (ll.length : Int)) rfl kr kr (decide_eq_false (by omega))) (wpl_end (then_normal (wp_iff kr (wp_exit (then_exit ?_)))))))
  refine then_exit (exit_here (then_normal (wp_seq (reg_lit (wpl_ldvec Bo.out rfl kr rfl kr ?_)))))
  refine wpl_stq (A2 := Ao) (m2 := lo.length) (c2 := co) (s2 := s) (Br.out.kept hV) rfl kr rfl kr kr ?_
  intro V Bq hkeep hbel
  refine wpl_end (then_normal (wp_ret (ret_box Bq rfl kr ?_)))
  obtain rfl : k = ll.length := by omega
  exact ⟨lo, s, Ao, co, hide (by rw [hlo, hR]), rfl, Ho.out.open_.1, hide (OwQ.low (OwQ.std (m2 := 0) (c2 := 0) (A2 := none) (s2 := false) Ho.out.open_.2.out hbel hnr hkeep) (by have := hU.size; omega)), (hU.trans (hV.mono hU.size)).trans (hbel hzr)⟩
end
section
open Go Go.RowKit
set_option maxRecDepth 100000
set_option linter.unusedSimpArgs false
set_option linter.unusedVariables false
def cdg (l : List Int) (f : Nat → Int) (k i : Nat) : Int := if i < k then f i else qt l i
theorem cdg_0 (l : List Int) (f : Nat → Int) (i : Nat) : qt l i = cdg l f 0 i := by unfold cdg; rw [if_neg (Nat.not_lt_zero _)]
theorem cdg_at (l : List Int) (f : Nat → Int) (k : Nat) : cdg l f k k = qt l k := by unfold cdg; rw [if_neg (Nat.lt_irrefl k)]
theorem cdg_next (l : List Int) (f : Nat → Int) (k i : Nat) : (if i = k then f k else cdg l f k i) = cdg l f (k + 1) i := by
  unfold cdg
  by_cases h : i = k
  · subst h; rw [if_pos rfl, if_pos (Nat.lt_succ_self _)]
  · rw [if_neg h]
    by_cases h2 : i < k
    · rw [if_pos h2, if_pos (by omega)]
    · rw [if_neg h2, if_neg (by omega)]
theorem cdg_nv (l : List Int) (f : Nat → Int) (k i : Nat) (v : Int) (h : f k = v) : (if i = k then v else cdg l f k i) = cdg l f (k + 1) i := by rw [← h]; exact cdg_next l f k i
section
variable (a b r : Int) (q : Bool) (w : World)
theorem and_m (h : mAnd a b = r) : Calls Tryz.prog 74 #[.int .u8 a, .int .u8 b] w (Mk (.int .u8 r) w) := (rand_q a b w).mono fun e w' k => by
  obtain ⟨rfl, rfl⟩ := k
  rw [h]
  exact ⟨rfl, Below.refl _ _⟩
theorem or_m (h : mOr a b = r) : Calls Tryz.prog 75 #[.int .u8 a, .int .u8 b] w (Mk (.int .u8 r) w) := (ror_q a b w).mono fun e w' k => by
  obtain ⟨rfl, rfl⟩ := k
  rw [h]
  exact ⟨rfl, Below.refl _ _⟩
theorem xor_m (h0 : 0 ≤ a) (h1 : 0 ≤ b) (h : mXor a b = r) : Calls Tryz.prog 76 #[.int .u8 a, .int .u8 b] w (Mk (.int .u8 r) w) := (rxor_q a b w h0 h1).mono fun e w' k => by
  obtain ⟨rfl, rfl⟩ := k
  rw [h]
  exact ⟨rfl, Below.refl _ _⟩
theorem eq_m (h0 : 0 ≤ a) (h1 : 0 ≤ b) (h : mEq a b = r) : Calls Tryz.prog 156 #[.int .u8 a, .int .u8 b] w (Mk (.int .u8 r) w) := (req_q a b w h0 h1).mono fun e w' k => by
  obtain ⟨rfl, rfl⟩ := k
  rw [h]
  exact ⟨rfl, Below.refl _ _⟩
theorem not_m (h : mNot a = r) : Calls Tryz.prog 79 #[.int .u8 a] w (Mk (.int .u8 r) w) := (rnot_q a w).mono fun e w' k => by
  obtain ⟨rfl, rfl⟩ := k
  rw [h]
  exact ⟨rfl, Below.refl _ _⟩
theorem buf_m (h0 : 0 ≤ a) (h : mBuf a = r) : Calls Tryz.prog 73 #[.int .u8 a] w (Mk (.int .u8 r) w) := (rbuf_q a w h0).mono fun e w' k => by
  obtain ⟨rfl, rfl⟩ := k
  rw [h]
  exact ⟨rfl, Below.refl _ _⟩
theorem from_m (h : mFrom q = r) : Calls Tryz.prog 162 #[.bool q] w (Mk (.int .u8 r) w) := (rfrom_q q w).mono fun e w' k => by
  obtain ⟨rfl, rfl⟩ := k
  rw [h]
  exact ⟨rfl, Below.refl _ _⟩
end
theorem Rd.kept {w w' : World} {A : Option Addr} {l : List Bool} (h : Rd w A l) (hb : Below w.heap.size w w') : Rd w' A l := h.below hb
theorem shf_known {m : Vc → Nat → List Int} {a b x y : Vc} (h1 : cnt a = x) (h2 : cnt b = y) (hk : kn y.b = true) : shf m a b = ⟨m x (min (nv (nb y.b)) x.b.length), x.s⟩ := by unfold shf dst; rw [h1, h2, if_pos hk]
theorem shf_unknown {m : Vc → Nat → List Int} {a b x y : Vc} (h1 : cnt a = x) (h2 : cnt b = y) (hk : kn y.b = false) : shf m a b = xs x.b.length x.s := by unfold shf; rw [h1, h2, hk]; rfl
def shfV (op : Int) (a b : Vc) : Vc := if op = 41 ∨ op = 43 then shf mShl a b else if op = 42 then shf mShr a b else shf mAShr a b
theorem shfV_unknown {op : Int} {a b x y : Vc} (h1 : cnt a = x) (h2 : cnt b = y) (hk : kn y.b = false) : shfV op a b = xs x.b.length x.s := by unfold shfV; split; exact shf_unknown h1 h2 hk; split; exact shf_unknown h1 h2 hk; exact shf_unknown h1 h2 hk
section
variable {P : Program} {ρ : Operand → Value} {o : Oper} {x y : Operand} {w : World} {t p : TypeId} {a b : Int}
theorem run_convi64u (ho : o.op = .convert 3 67 x) (hx : ρ x = .int .i64 a) (h1 : 0 ≤ a) (h2 : a ≤ 9223372036854775807) : (execOp ρ o).run Tryz.prog w = .ok (.value (.int .u64 a)) w := by
  unfold execOp
  rw [ho]
  simp only [hx]
  have e : (Value.int .u64 (IntKind.wrap .u64 a)) = .int .u64 a := by rw [IntKind.wrap_u64]; congr 1; omega
  rw [← e]
  simp [go_sem]
  try rfl
theorem run_convu64i (ho : o.op = .convert 67 3 x) (hx : ρ x = .int .u64 a) (h1 : 0 ≤ a) (h2 : a ≤ 9223372036854775807) : (execOp ρ o).run Tryz.prog w = .ok (.value (.int .i64 a)) w := by
  unfold execOp
  rw [ho]
  simp only [hx]
  have e : (Value.int .i64 (IntKind.wrap .i64 a)) = .int .i64 a := by rw [wrap_id (by omega) (by omega)]
  rw [← e]
  simp [go_sem]
  try rfl
theorem run_nequ8 (ho : o.op = .binOp .neq t x y p) (hx : ρ x = .int .u8 a) (hy : ρ y = .int .u8 b) {q : Bool} (hc : (a != b) = q) : (execOp ρ o).run P w = .ok (.value (.bool q)) w := by
  subst hc
  unfold execOp
  rw [ho]
  simp only [hx, hy]
  rfl
theorem run_lssu (ho : o.op = .binOp .lss t x y p) (hx : ρ x = .int .u64 a) (hy : ρ y = .int .u64 b) {q : Bool} (hc : decide (a < b) = q) : (execOp ρ o).run P w = .ok (.value (.bool q)) w := by
  subst hc
  unfold execOp
  rw [ho]
  simp only [hx, hy]
  rfl
end
theorem uint_yes (l : List Int) (M : Nat) (A : Option Addr) (a : List Bool) (c : Nat) (w : World) (e0 : a = nb l) (hM : M = nv (nb l)) (hm : M < 2 ^ 64) (ha : l.length ≤ 4096) (hca : Hid (a.length ≤ c ∧ c ≤ maxLen)) (hA : Rd w A a) :
    Calls Tryz.prog 155 #[.slice A a.length c] w (Mk (.tuple #[.int .u64 (M : Nat), .bool true]) w) := by
  subst e0 hM
  refine (ruint_any A _ c w (by rw [nb_length]; exact ha) hca hA).mono ?_
  rintro e w' ⟨h | h, hb⟩
  · exact ⟨h.2, hb⟩
  · omega
theorem uint_no (l : List Int) (A : Option Addr) (a : List Bool) (c : Nat) (w : World) (e0 : a = nb l) (hm : 2 ^ 64 ≤ nv (nb l)) (ha : l.length ≤ 4096) (hca : Hid (a.length ≤ c ∧ c ≤ maxLen)) (hA : Rd w A a) :
    Calls Tryz.prog 155 #[.slice A a.length c] w (Mk (.tuple #[.int .u64 0, .bool false]) w) := by
  subst e0
  refine (ruint_any A _ c w (by rw [nb_length]; exact ha) hca hA).mono ?_
  rintro e w' ⟨h | h, hb⟩
  · omega
  · exact ⟨h.2, hb⟩
theorem uint_x (l : List Int) (M m : Nat) (q : Bool) (h : (q = true ∧ m = M ∧ M < 2 ^ 64) ∨ (q = false ∧ m = 0 ∧ 2 ^ 64 ≤ M)) (A : Option Addr) (a : List Bool) (c : Nat) (w : World) (e0 : a = nb l) (hM : M = nv (nb l)) (ha : l.length ≤ 4096) (hca : Hid (a.length ≤ c ∧ c ≤ maxLen)) (hA : Rd w A a) :
    Calls Tryz.prog 155 #[.slice A a.length c] w (Mk (.tuple #[.int .u64 (m : Nat), .bool q]) w) := by
  rcases h with ⟨rfl, rfl, hm⟩ | ⟨rfl, rfl, hm⟩
  · exact uint_yes l _ A a c w e0 hM hm ha hca hA
  · exact uint_no l A a c w e0 (hM ▸ hm) ha hca hA
theorem uint_ex (M : Nat) : ∃ (m : Nat) (q : Bool), (q = true ∧ m = M ∧ M < 2 ^ 64) ∨ (q = false ∧ m = 0 ∧ 2 ^ 64 ≤ M) := by
  rcases Nat.lt_or_ge M (2 ^ 64) with h | h
  · exact ⟨M, true, Or.inl ⟨rfl, rfl, h⟩⟩
  · exact ⟨0, false, Or.inr ⟨rfl, rfl, h⟩⟩
def arL (f : List Bool → List Bool → Bool → Option (List Bool)) (la lb : List Int) (s : Bool) : Vc :=
  if kn la && kn lb then (match f (nb la) (nb lb) s with | some l => ⟨fb l, s⟩ | none => xs la.length s) else xs la.length s
theorem arL_some {f : List Bool → List Bool → Bool → Option (List Bool)} {la lb : List Int} {s : Bool} {l : List Bool} (h1 : kn la = true) (h2 : kn lb = true) (h : f (nb la) (nb lb) s = some l) : arL f la lb s = ⟨fb l, s⟩ := by unfold arL; rw [h1, h2, h]; rfl
theorem arL_none {f : List Bool → List Bool → Bool → Option (List Bool)} {la lb : List Int} {s : Bool} (h1 : kn la = true) (h2 : kn lb = true) (h : f (nb la) (nb lb) s = none) : arL f la lb s = xs la.length s := by unfold arL; rw [h1, h2, h]; rfl
theorem arL_a {f : List Bool → List Bool → Bool → Option (List Bool)} {la lb : List Int} {s : Bool} (h1 : kn la = false) : arL f la lb s = xs la.length s := by unfold arL; rw [h1]; rfl
theorem arL_b {f : List Bool → List Bool → Bool → Option (List Bool)} {la lb : List Int} {s : Bool} (h1 : kn la = true) (h2 : kn lb = false) : arL f la lb s = xs la.length s := by unfold arL; rw [h1, h2]; rfl
theorem ar_arL (f : List Bool → List Bool → Bool → Option (List Bool)) (a b : Vc) : ar f a b = arL f (blA a b) (blB a b) (sg a b) := by unfold ar arL; rw [blA_length]; rfl
theorem fDiv_z {m n : List Bool} {s : Bool} (h : nv n = 0) : fDiv m n s = none := by unfold fDiv; rw [if_pos h]
theorem fMod_z {m n : List Bool} {s : Bool} (h : nv n = 0) : fMod m n s = none := by unfold fMod; rw [if_pos h]
theorem fDiv_u {m n : List Bool} (h : 0 < nv n) : fDiv m n false = some (vz m.length ((nv m / nv n : Nat) : Int)) := by unfold fDiv; rw [if_neg (by omega)]; rfl
theorem fMod_u {m n : List Bool} (h : 0 < nv n) : fMod m n false = some (vz m.length ((nv m % nv n : Nat) : Int)) := by unfold fMod; rw [if_neg (by omega)]; rfl
theorem fDiv_s {m n : List Bool} (h : 0 < nv n) : fDiv m n true = some (vz m.length ((sv m).tdiv (sv n))) := by unfold fDiv; rw [if_neg (by omega)]; rfl
theorem fMod_s {m n : List Bool} (h : 0 < nv n) : fMod m n true = some (vz m.length ((sv m).tmod (sv n))) := by unfold fMod; rw [if_neg (by omega)]; rfl
def arV (op : Int) (la lb : List Int) (s : Bool) : Vc :=
  if op = 21 then arL fAdd la lb s else if op = 22 then arL fSub la lb s else if op = 23 then arL fMul la lb s else if op = 24 then arL fDiv la lb s else arL fMod la lb s
theorem arV_z {op : Int} {la lb : List Int} {s : Bool} (h : op = 24 ∨ op = 25) (h1 : kn la = true) (h2 : kn lb = true) (hz : nv (nb lb) = 0) : arV op la lb s = xs la.length s := by
  rcases h with rfl | rfl
  · show arL fDiv la lb s = _; exact arL_none h1 h2 (fDiv_z hz)
  · show arL fMod la lb s = _; exact arL_none h1 h2 (fMod_z hz)
theorem arV_a {op : Int} {la lb : List Int} {s : Bool} (h1 : kn la = false) : arV op la lb s = xs la.length s := by unfold arV; (repeat' split) <;> exact arL_a h1
theorem arV_b {op : Int} {la lb : List Int} {s : Bool} (h1 : kn la = true) (h2 : kn lb = false) : arV op la lb s = xs la.length s := by unfold arV; (repeat' split) <;> exact arL_b h1 h2
def rcE (la lb : List Int) : Nat → Int
  | 0 => 1
  | k + 1 => mAnd (rcE la lb k) (mEq (qt la k) (qt lb k))
def rcS (la lb : List Int) : Nat → Bool
  | 0 => true
  | k + 1 => rcS la lb k && (qt la k == qt lb k)
def rcC (la lb : List Int) (s : Bool) : Int := if s then cmp (sv (nb la)) (sv (nb lb)) else cmp (nv (nb la)) (nv (nb lb))
def rcR (h : Int → Bool) (la lb : List Int) (s : Bool) : Int := if kn la && kn lb then mFrom (h (rcC la lb s)) else 2
def rcmpV (op : Int) (la lb : List Int) (s : Bool) : Int :=
  if op = 27 then rcE la lb la.length else if op = 28 then mNot (rcE la lb la.length)
  else if op = 29 then mFrom (rcS la lb la.length) else if op = 30 then mFrom (!rcS la lb la.length)
  else if op = 31 then rcR (fun z => decide (z < 0)) la lb s else if op = 32 then rcR (fun z => decide (z ≤ 0)) la lb s
  else if op = 33 then rcR (fun z => decide (0 < z)) la lb s else rcR (fun z => decide (0 ≤ z)) la lb s
theorem rcmpV_u {op : Int} {la lb : List Int} {s : Bool} (h : 31 ≤ op ∧ op ≤ 34) (k : (kn la && kn lb) = false) : rcmpV op la lb s = 2 := by
  unfold rcmpV
  rw [if_neg (by omega), if_neg (by omega), if_neg (by omega), if_neg (by omega)]
  have e : ∀ f : Int → Bool, rcR f la lb s = 2 := fun f => by unfold rcR; rw [k]; rfl
  rw [e, e, e, e]
  (repeat' split) <;> rfl
theorem known_w (q : Bool) (A : Option Addr) (a : List Int) (c : Nat) (s : Bool) (w : World) (ha : a.length ≤ 4096) (hca : Hid (a.length ≤ c ∧ c ≤ maxLen)) (hA : RQ w A a) (ya : By a) (hg : Gd a) (h : kn a = q) :
    Calls Tryz.prog 148 #[.agg #[.slice A a.length c, .bool s]] w (Mk (.bool q) w) := by
  have h2 := rknown_any' A a c s w ha hca hA ya
  rw [cnt_of_gd (v := ⟨a, s⟩) hg] at h2
  rw [← h]
  exact h2
def binV (op : Int) (a b : Vc) : Vc :=
  if op = 26 then vPow a b else if 41 ≤ op ∧ op ≤ 44 then shfV op a b else if op = 35 then sgl (mAnd (tr a) (tr b)) else if op = 36 then sgl (mOr (tr a) (tr b))
  else if op = 37 then btw mAnd a b else if op = 38 then btw mOr a b else if op = 39 then btw mXor a b else if op = 40 then btw mEq a b
  else if 21 ≤ op ∧ op ≤ 25 then arV op (blA a b) (blB a b) (sg a b) else sgl (rcmpV op (blA a b) (blB a b) (sg a b))
theorem binV_shf {op : Int} {a b : Vc} (h : 41 ≤ op ∧ op ≤ 44) : binV op a b = shfV op a b := by unfold binV; rw [if_neg (by omega), if_pos h]
theorem binV_ar {op : Int} {a b : Vc} (h : 21 ≤ op ∧ op ≤ 25) : binV op a b = arV op (blA a b) (blB a b) (sg a b) := by
  unfold binV; rw [if_neg (by omega), if_neg (by omega), if_neg (by omega), if_neg (by omega), if_neg (by omega), if_neg (by omega), if_neg (by omega), if_neg (by omega), if_pos h]
theorem binV_cmp {op : Int} {a b : Vc} (h : 27 ≤ op ∧ op ≤ 34) : binV op a b = sgl (rcmpV op (blA a b) (blB a b) (sg a b)) := by
  unfold binV; rw [if_neg (by omega), if_neg (by omega), if_neg (by omega), if_neg (by omega), if_neg (by omega), if_neg (by omega), if_neg (by omega), if_neg (by omega), if_neg (by omega)]
theorem own_row {w W V : World} {g n N : Nat} {F : Nat → Int} {A : Option Addr} (h : RowQ W g n F) (hk : ∀ x, x ≠ N → V.heap[x]? = W.heap[x]?) (hN : N ≠ g) (eg : A = some ⟨g, 0, none⟩) (hg : w.heap.size ≤ g) : OwQ w.heap.size V A (ql n F) := fun _ => by
  obtain ⟨cs, hc, hi⟩ := h
  refine ⟨g, eg, hg, cs, by rw [hk g hN.symm]; exact hc, fun i h2 => ?_⟩
  rw [ql_length] at h2
  rw [hi i h2, qt_ql_lt h2]
theorem Box.blk {N m c : Nat} {A : Option Addr} {s : Bool} {w w' : World} (h : Box N A m c s w) (e : w'.heap[N]? = w.heap[N]?) (hz : w.heap.size ≤ w'.heap.size) : Box N A m c s w' :=
  ⟨Nat.lt_of_lt_of_le h.lt hz, (World.cell?_of_block (a := ⟨N, 0, none⟩) e).trans h.c0, (World.cell?_of_block (a := ⟨N, 1, none⟩) e).trans h.c1, (World.frozen?_of_block (a := ⟨N, 0, none⟩) e).trans h.f0, (World.frozen?_of_block (a := ⟨N, 1, none⟩) e).trans h.f1⟩
theorem rdx_nn {l : List Int} (h : Gd l) (k : Nat) : 0 ≤ rd mXor l k := by
  cases k with
  | zero => show 0 ≤ mBuf (qt l 0); unfold mBuf; split; decide; split <;> decide
  | succ k => show 0 ≤ mXor _ _; unfold mXor; split; decide; split <;> decide
theorem red_at {f : Int → Int → Int} {a : Vc} {l : List Int} {s : Bool} {q : Nat} (h : cnt a = ⟨l, s⟩) (hq : q + 1 = l.length) : red f a = rd f l q := by
  unfold red; rw [h]; show rd f l (l.length - 1) = _; rw [show l.length - 1 = q by omega]
theorem tr_cnt {a : Vc} {l : List Int} {s : Bool} (h : cnt a = ⟨l, s⟩) : tr ⟨l, s⟩ = tr a := by unfold tr red; rw [← h, cnt_cnt]
theorem neg_bin {a z : Vc} {l : List Int} {s : Bool} (h : cnt a = ⟨l, s⟩) (hz : z = ⟨ql l.length fun _ => 0, s⟩) : binV 22 z ⟨l, s⟩ = vNeg a := by
  rw [binV_ar (by decide), hz]
  unfold vNeg zr
  rw [h]
  show arL fSub _ _ _ = ar fSub _ _
  rw [ar_arL]
theorem vl_mod (l : List Int) (s : Bool) : vl l s % 2 ^ (nb l).length = nv (nb l) % 2 ^ (nb l).length := by
  unfold vl
  cases s
  · rfl
  · exact sv_mod _
theorem neg1_even (m : Nat) : (-1 : Int) ^ (2 * m) = 1 := by rw [Int.pow_mul]; show ((-1 : Int) ^ 2) ^ m = 1; rw [show ((-1 : Int) ^ 2) = 1 from rfl, Int.one_pow]
theorem pw_odd {l : List Int} {s : Bool} {k : Nat} (hv : vl l s = 1 ∨ vl l s = -1) (hk : k % 2 = 1) : vz (nb l).length ((nv (nb l) : Int) ^ k) = nb l := by
  rw [vz_eq (pow_mod _ _ _ k (vl_mod l s).symm)]
  obtain ⟨m, rfl⟩ : ∃ m, k = 2 * m + 1 := ⟨k / 2, by omega⟩
  have e : vl l s ^ (2 * m + 1) = vl l s := by
    rcases hv with h | h <;> rw [h]
    · exact Int.one_pow
    · rw [Int.pow_succ, neg1_even]; rfl
  rw [e, vz_eq (vl_mod l s), vz_nv]
theorem pw_even {l : List Int} {s : Bool} {k : Nat} (hv : vl l s = 1 ∨ vl l s = -1) (hk : k % 2 = 0) : vz (nb l).length ((nv (nb l) : Int) ^ k) = vz (nb l).length 1 := by
  rw [vz_eq (pow_mod _ _ _ k (vl_mod l s).symm)]
  obtain ⟨m, rfl⟩ : ∃ m, k = 2 * m := ⟨k / 2, by omega⟩
  have e : vl l s ^ (2 * m) = 1 := by
    rcases hv with h | h <;> rw [h]
    · exact Int.one_pow
    · exact neg1_even m
  rw [e]
theorem bt0 (l : List Bool) : bt l 0 = decide (nv l % 2 = 1) := by
  rw [← zb_nv l 0]
  unfold zb
  congr 1
  simp only [Int.pow_zero, Int.ediv_one]
  exact propext (by omega)
theorem xt_neg {l : List Int} (h : Gd l) : decide (xt ⟨l, true⟩ = 1) = ng (nb l) := by
  have hp := h.pos
  unfold ng xt
  simp only [if_true]
  rw [nb_length, decide_eq_true hp, Bool.true_and]
  unfold nb
  rw [bt_bl_lt (by omega)]
section
variable {a b : Vc} {l1 l2 : List Int} {s1 s2 : Bool} (h1 : cnt a = ⟨l1, s1⟩) (h2 : cnt b = ⟨l2, s2⟩)
include h1 h2
theorem vPow_a (k1 : kn l1 = false) : vPow a b = xs l1.length s1 := by unfold vPow; simp only [h1, h2, k1]; rfl
theorem vPow_b (k1 : kn l1 = true) (k2 : kn l2 = false) : vPow a b = xs l1.length s1 := by unfold vPow; simp only [h1, h2, k1, k2]; rfl
theorem vPow_pos (k1 : kn l1 = true) (k2 : kn l2 = true) (hn : (s2 && decide (xt ⟨l2, s2⟩ = 1)) = false) : vPow a b = ⟨fb (vz l1.length ((nv (nb l1) : Int) ^ nv (nb l2))), s1⟩ := by
  unfold vPow; simp only [h1, h2, k1, k2, hn]; rfl
theorem vPow_zero (k1 : kn l1 = true) (k2 : kn l2 = true) (hn : (s2 && decide (xt ⟨l2, s2⟩ = 1)) = true) (hz : vl l1 s1 = 0) : vPow a b = xs l1.length s1 := by
  unfold vPow; simp only [h1, h2, k1, k2, hn, hz]; rfl
theorem vPow_one (k1 : kn l1 = true) (k2 : kn l2 = true) (hn : (s2 && decide (xt ⟨l2, s2⟩ = 1)) = true) (hz : vl l1 s1 = 1 ∨ vl l1 s1 = -1) : vPow a b = ⟨fb (vz l1.length ((nv (nb l1) : Int) ^ nv (nb l2))), s1⟩ := by
  unfold vPow; simp only [h1, h2, k1, k2, hn, hz]
  have h0 : ¬ vl l1 s1 = 0 := by omega
  simp only [h0, if_true, if_false, Bool.and_self]
theorem vPow_big (g : Gd l1) (k1 : kn l1 = true) (k2 : kn l2 = true) (hn : (s2 && decide (xt ⟨l2, s2⟩ = 1)) = true) (h0 : ¬ vl l1 s1 = 0) (hz : ¬ (vl l1 s1 = 1 ∨ vl l1 s1 = -1)) : vPow a b = ⟨ql l1.length fun _ => 0, s1⟩ := by
  unfold vPow zr; simp only [h1, h2, k1, k2, hn, h0, hz, if_true, if_false, Bool.and_self, cnt_of_gd (v := ⟨l1, s1⟩) g]
end
theorem cmp_w2 (z : Int) (A B : Option Addr) (a b : List Bool) (c d : Nat) (w : World) (h : cmp (nv a) (nv b) = z) (ha : a.length ≤ 4096) (hb : b.length ≤ 4096) (hca : Hid (a.length ≤ c ∧ c ≤ maxLen)) (hcb : Hid (b.length ≤ d ∧ d ≤ maxLen)) (hA : Rd w A a) (hB : Rd w B b) :
    Calls Tryz.prog 153 #[.slice A a.length c, .slice B b.length d] w (Mk (.int .i64 z) w) := by
  rw [← h]; exact rcmp_any A B a b c d w ha hb hca hcb hA hB
theorem rneg_w (q : Bool) (A : Option Addr) (l : List Bool) (c : Nat) (w : World) (h : ng l = q) (hl : l.length ≤ 4096) (hr : Rd w A l) :
    Calls Tryz.prog 150 #[.slice A l.length c] w (Mk (.bool q) w) := (rneg_any A l c w hl hr).mono fun e w' k => by
  obtain ⟨rfl, rfl⟩ := k
  rw [h]
  exact ⟨rfl, Below.refl _ _⟩
theorem cmp_1 {x y : Int} (h : y < x) : cmp x y = 1 := by unfold cmp; rw [if_neg (by omega), if_pos h]
theorem rd_none (w : World) : Rd w none [] := fun h => absurd h (by simp)
theorem run_bsb' {ρ : Operand → Value} {o : Oper} {x : Operand} {w : World} {b : Bool} (ho : o.op = .buildSlice 82 1 #[(0, x)]) (hx : ρ x = .bool b) : (execOp ρ o).run Tryz.prog w = .ok (.value (.slice (some ⟨w.heap.size, 0, none⟩) 1 1)) (w.alloc (.cells #[.bool b] 4)) := by
  unfold execOp
  rw [ho]
  simp [go_sem, hx]
section
variable {Q : Exit → Act → World → Prop} {ops : Array Oper} {o : Oper} {rest : List Oper} {x : Operand} {w W : World} {n d : Nat} {E : Env} {b : Bool}
theorem wpl_bsb1 (hd : o.dst = some d) (hw : wnt ops n E o = true) (ho : o.op = .buildSlice 82 1 #[(0, x)]) (hx : evl n E x = .bool b)
    (h : ∀ (V : World) (N : Nat), Rd V (some ⟨N, 0, none⟩) [b] → Below w.heap.size w V → WL Tryz.prog ops Q rest n ((d, .slice (some ⟨N, 0, none⟩) 1 1) :: E) V) : WL Tryz.prog ops Q (o :: rest) n E w :=
  wpl_val hd hw (run_bsb' ho hx) (h _ _ (one_rd w b) ((Below.refl _ _).alloc (Nat.le_refl _) _))
theorem stepR_bsb1 {fuel kk mk i m' q : Nat} (hi : ops[i]? = some o) (hd : o.dst = some d) (hin : Nat.blt i q = true) (hw : wnt ops kk E o = true) (hm : Nat.lor mk (Nat.shiftLeft 1 i) = m') (ho : o.op = .buildSlice 82 1 #[(0, x)]) (hx : evl kk E x = .bool b)
    (h : ∀ (V : World) (N : Nat), Rd V (some ⟨N, 0, none⟩) [b] → Below w.heap.size w V → anyR Tryz.prog ops Q W q fuel m' kk ((d, .slice (some ⟨N, 0, none⟩) 1 1) :: E) V) : StepR Tryz.prog ops Q W q fuel mk kk E w i :=
  stepR_val hi hd hin hw hm (run_bsb' ho hx) ((Below.refl _ _).alloc (Nat.le_refl _) _) (h _ _ (one_rd w b) ((Below.refl _ _).alloc (Nat.le_refl _) _))
end
end
section
open Go Go.RowKit
theorem kB {N n c : Nat} {A : Option Addr} {s : Bool} {w w' : World} (h : Hid (Box N A n c s w)) (hb : Below w.heap.size w w') : Hid (Box N A n c s w') := hide (h.out.kept hb)
end
section
open Go Go.RowKit
theorem kS {N m c : Nat} {A A2 : Option Addr} {s : Bool} {w V : World} {l : List Int} (h : Std N A m c s w V) (k : Hid (RQ w A2 l)) : Hid (RQ V A2 l) := hide (h.rq k.out)
end
end Go.Proofs.YtbcpeagannjgpaaGreatDoor
