/-
  The walk of StrengthDrivers.
-/
import Derived.Test.YtiggmncjmkeboaaDoorStrK
namespace Go.Proofs.YtiggmncjmkeboaaDoor
open Go.RowKit
set_option linter.unusedSimpArgs false

theorem drv_val {b s t : Int} (h0 : 0 ≤ s) (h1 : 0 ≤ t) : mVal (dLo b s t) (dHi b s t) = true := by
  have a := hgh_bd h0
  have c := hgh_bd h1
  refine mVal_t ?_
  have hb : -7 ≤ dLo b s t ∧ dLo b s t ≤ dHi b s t ∧ dHi b s t ≤ 7 := by
    unfold dLo dHi; (repeat' split) <;> omega
  rw [nLo_id hb.1 hb.2.1 hb.2.2, nHi_id hb.1 hb.2.1 hb.2.2]
  exact ⟨rfl, rfl⟩
theorem drv_in0 {s t : Int} (h0 : 0 ≤ s) (h1 : 0 ≤ t) : inB (dLo 0 s t) (dHi 0 s t) (dLo 2 s t) (dHi 2 s t) = true := by
  have a := hgh_bd h0
  have c := hgh_bd h1
  exact decide_eq_true (by simp [dLo, dHi]; omega)
theorem drv_in1 {s t : Int} (h0 : 0 ≤ s) (h1 : 0 ≤ t) : inB (dLo 1 s t) (dHi 1 s t) (dLo 2 s t) (dHi 2 s t) = true := by
  have a := hgh_bd h0
  have c := hgh_bd h1
  exact decide_eq_true (by simp [dLo, dHi]; omega)
theorem drv_read {b s t : Int} (hb : 0 ≤ b) (h0 : 0 ≤ s) (h1 : 0 ≤ t) (hs : s ≠ 0) (ht : t ≠ 0) : mSame (mRead (dLo b s t) (dHi b s t)) b = true := by
  have a := hgh_bd h0
  have c := hgh_bd h1
  have a2 : 0 < hgh s := by unfold hgh; omega
  have c2 : 0 < hgh t := by unfold hgh; omega
  have hbd : -7 ≤ dLo b s t ∧ dLo b s t ≤ dHi b s t ∧ dHi b s t ≤ 7 := by
    unfold dLo dHi; (repeat' split) <;> omega
  have e : mRead (dLo b s t) (dHi b s t) = bst b := by
    unfold mRead
    rw [nLo_id hbd.1 hbd.2.1 hbd.2.2, nHi_id hbd.1 hbd.2.1 hbd.2.2]
    unfold dLo dHi bst
    (repeat' split) <;> omega
  rw [e]
  unfold mSame
  exact decide_eq_true (by unfold bst; (repeat' split) <;> omega)

set_option maxHeartbeats 4000000 in
theorem StrengthDrivers_walk (b s t : Int) (w : World) (hb0 : 0 ≤ b) (h0 : 0 ≤ s) (h1 : 0 ≤ t) (hN : Names w) : Calls Tryd.prog 11 #[.int .u8 b, .int .u8 s, .int .u8 t] w (Mk (.bool true) w) := by
  have HN := hide hN
  clear hN
  have e1 : dLo 3 s t = 0 := by simp [dLo]
  have e2 : dHi 3 s t = 0 := by simp [dHi]
  have e3 := drv_val (b := b) h0 h1
  have e4 := drv_in0 h0 h1
  have e5 := drv_in1 h0 h1
  have hB : Below w.heap.size w w := Below.refl _ _
  go_enter Tryd.func11, Tryd.ntmps11
  go_wp2_with fail
  refine (drive_any _ _ _ _ h0 h1).mono ?_
  rintro e w1 ⟨rfl, hB1⟩
  clear hB
  go_wp2_with fail
  have hX := At2.new w1 (dLo b s t) (dHi b s t) 29
  have hB := Below.alloc hB1 hB1.size (.cells #[.int .i8 (dLo b s t), .int .i8 (dHi b s t)] 29)
  clear hB1
  generalize w1.alloc (.cells #[.int .i8 (dLo b s t), .int .i8 (dHi b s t)] 29) = W at *
  generalize w1.heap.size = N at *
  have kx := hX.2.1
  have ky := hX.2.2
  by_cases hs : s = 0
  · subst hs
    go_wp2_with (first
    | (go_at_call 20; (with_reducible refine Calls.mono (valid_any _ _ _) ?_); rintro e wz ⟨rfl, hb⟩; have hs := hB.size; replace hB := Below.trans (B := w.heap.size) (a := w) (by (repeat (first | assumption | exact Below.refl _ _ | refine Below.setCell ?_ (by first | (simp; done) | omega | (simp; omega)) _ | refine Below.alloc ?_ (by first | (simp; done) | omega | (simp; omega)) _ | refine below_drewN ?_ _ | refine Below.drew ?_))) (hb.mono (by first | omega | (simp; omega))); clear hs; clear kx ky; replace hX := hX.below hb; have kx := hX.2.1; have ky := hX.2.2; clear hb)
    | (go_at_call 25; (with_reducible refine Calls.mono (drive_any _ _ _ _ (by assumption) (by assumption)) ?_); rintro e wz ⟨rfl, hb⟩; have hs := hB.size; replace hB := Below.trans (B := w.heap.size) (a := w) (by (repeat (first | assumption | exact Below.refl _ _ | refine Below.setCell ?_ (by first | (simp; done) | omega | (simp; omega)) _ | refine Below.alloc ?_ (by first | (simp; done) | omega | (simp; omega)) _ | refine below_drewN ?_ _ | refine Below.drew ?_))) (hb.mono (by first | omega | (simp; omega))); clear hs; clear kx ky; replace hX := hX.below hb; have kx := hX.2.1; have ky := hX.2.2; clear hb)
    | (go_at_call 31; (with_reducible refine Calls.mono (to_any _ _ _) ?_); rintro e wz ⟨rfl, hb⟩; have hs := hB.size; replace hB := Below.trans (B := w.heap.size) (a := w) (by (repeat (first | assumption | exact Below.refl _ _ | refine Below.setCell ?_ (by first | (simp; done) | omega | (simp; omega)) _ | refine Below.alloc ?_ (by first | (simp; done) | omega | (simp; omega)) _ | refine below_drewN ?_ _ | refine Below.drew ?_))) (hb.mono (by first | omega | (simp; omega))); clear hs; clear kx ky; replace hX := hX.below hb; have kx := hX.2.1; have ky := hX.2.2; clear hb)
    | (go_at_call 33; (with_reducible refine Calls.mono (within_any _ _ _ _ _) ?_); rintro e wz ⟨rfl, hb⟩; have hs := hB.size; replace hB := Below.trans (B := w.heap.size) (a := w) (by (repeat (first | assumption | exact Below.refl _ _ | refine Below.setCell ?_ (by first | (simp; done) | omega | (simp; omega)) _ | refine Below.alloc ?_ (by first | (simp; done) | omega | (simp; omega)) _ | refine below_drewN ?_ _ | refine Below.drew ?_))) (hb.mono (by first | omega | (simp; omega))); clear hs; clear kx ky; replace hX := hX.below hb; have kx := hX.2.1; have ky := hX.2.2; clear hb)
    | (go_at_call 21; (with_reducible refine Calls.mono (read_any _ _ _) ?_); rintro e wz ⟨rfl, hb⟩; have hs := hB.size; replace hB := Below.trans (B := w.heap.size) (a := w) (by (repeat (first | assumption | exact Below.refl _ _ | refine Below.setCell ?_ (by first | (simp; done) | omega | (simp; omega)) _ | refine Below.alloc ?_ (by first | (simp; done) | omega | (simp; omega)) _ | refine below_drewN ?_ _ | refine Below.drew ?_))) (hb.mono (by first | omega | (simp; omega))); clear hs; clear kx ky; replace hX := hX.below hb; have kx := hX.2.1; have ky := hX.2.2; clear hb)
    | (go_at_call 35; (with_reducible refine (same_any _ _ _).mono ?_); rintro e wz ⟨rfl, rfl⟩)
    | (go_at_call 13; (with_reducible refine Calls.mono (awake_any _ ?_) ?_); (exact Names.over HN (by assumption)); rintro e wz ⟨rfl, hb⟩; have hs := hB.size; replace hB := Below.trans (B := w.heap.size) (a := w) (by (repeat (first | assumption | exact Below.refl _ _ | refine Below.setCell ?_ (by first | (simp; done) | omega | (simp; omega)) _ | refine Below.alloc ?_ (by first | (simp; done) | omega | (simp; omega)) _ | refine below_drewN ?_ _ | refine Below.drew ?_))) (hb.mono (by first | omega | (simp; omega))); clear hs; clear kx ky; replace hX := hX.below hb; have kx := hX.2.1; have ky := hX.2.2; clear hb))
    go_ret
    exact ⟨rfl, hB⟩
  · have es : (s == 0) = false := by simpa using hs
    by_cases ht : t = 0
    · subst ht
      go_wp2_with (first
    | (go_at_call 20; (with_reducible refine Calls.mono (valid_any _ _ _) ?_); rintro e wz ⟨rfl, hb⟩; have hs := hB.size; replace hB := Below.trans (B := w.heap.size) (a := w) (by (repeat (first | assumption | exact Below.refl _ _ | refine Below.setCell ?_ (by first | (simp; done) | omega | (simp; omega)) _ | refine Below.alloc ?_ (by first | (simp; done) | omega | (simp; omega)) _ | refine below_drewN ?_ _ | refine Below.drew ?_))) (hb.mono (by first | omega | (simp; omega))); clear hs; clear kx ky; replace hX := hX.below hb; have kx := hX.2.1; have ky := hX.2.2; clear hb)
    | (go_at_call 25; (with_reducible refine Calls.mono (drive_any _ _ _ _ (by assumption) (by assumption)) ?_); rintro e wz ⟨rfl, hb⟩; have hs := hB.size; replace hB := Below.trans (B := w.heap.size) (a := w) (by (repeat (first | assumption | exact Below.refl _ _ | refine Below.setCell ?_ (by first | (simp; done) | omega | (simp; omega)) _ | refine Below.alloc ?_ (by first | (simp; done) | omega | (simp; omega)) _ | refine below_drewN ?_ _ | refine Below.drew ?_))) (hb.mono (by first | omega | (simp; omega))); clear hs; clear kx ky; replace hX := hX.below hb; have kx := hX.2.1; have ky := hX.2.2; clear hb)
    | (go_at_call 31; (with_reducible refine Calls.mono (to_any _ _ _) ?_); rintro e wz ⟨rfl, hb⟩; have hs := hB.size; replace hB := Below.trans (B := w.heap.size) (a := w) (by (repeat (first | assumption | exact Below.refl _ _ | refine Below.setCell ?_ (by first | (simp; done) | omega | (simp; omega)) _ | refine Below.alloc ?_ (by first | (simp; done) | omega | (simp; omega)) _ | refine below_drewN ?_ _ | refine Below.drew ?_))) (hb.mono (by first | omega | (simp; omega))); clear hs; clear kx ky; replace hX := hX.below hb; have kx := hX.2.1; have ky := hX.2.2; clear hb)
    | (go_at_call 33; (with_reducible refine Calls.mono (within_any _ _ _ _ _) ?_); rintro e wz ⟨rfl, hb⟩; have hs := hB.size; replace hB := Below.trans (B := w.heap.size) (a := w) (by (repeat (first | assumption | exact Below.refl _ _ | refine Below.setCell ?_ (by first | (simp; done) | omega | (simp; omega)) _ | refine Below.alloc ?_ (by first | (simp; done) | omega | (simp; omega)) _ | refine below_drewN ?_ _ | refine Below.drew ?_))) (hb.mono (by first | omega | (simp; omega))); clear hs; clear kx ky; replace hX := hX.below hb; have kx := hX.2.1; have ky := hX.2.2; clear hb)
    | (go_at_call 21; (with_reducible refine Calls.mono (read_any _ _ _) ?_); rintro e wz ⟨rfl, hb⟩; have hs := hB.size; replace hB := Below.trans (B := w.heap.size) (a := w) (by (repeat (first | assumption | exact Below.refl _ _ | refine Below.setCell ?_ (by first | (simp; done) | omega | (simp; omega)) _ | refine Below.alloc ?_ (by first | (simp; done) | omega | (simp; omega)) _ | refine below_drewN ?_ _ | refine Below.drew ?_))) (hb.mono (by first | omega | (simp; omega))); clear hs; clear kx ky; replace hX := hX.below hb; have kx := hX.2.1; have ky := hX.2.2; clear hb)
    | (go_at_call 35; (with_reducible refine (same_any _ _ _).mono ?_); rintro e wz ⟨rfl, rfl⟩)
    | (go_at_call 13; (with_reducible refine Calls.mono (awake_any _ ?_) ?_); (exact Names.over HN (by assumption)); rintro e wz ⟨rfl, hb⟩; have hs := hB.size; replace hB := Below.trans (B := w.heap.size) (a := w) (by (repeat (first | assumption | exact Below.refl _ _ | refine Below.setCell ?_ (by first | (simp; done) | omega | (simp; omega)) _ | refine Below.alloc ?_ (by first | (simp; done) | omega | (simp; omega)) _ | refine below_drewN ?_ _ | refine Below.drew ?_))) (hb.mono (by first | omega | (simp; omega))); clear hs; clear kx ky; replace hX := hX.below hb; have kx := hX.2.1; have ky := hX.2.2; clear hb))
      go_ret
      exact ⟨rfl, hB⟩
    · have et : (t == 0) = false := by simpa using ht
      have er := drv_read hb0 h0 h1 hs ht
      clear hs ht
      go_wp2_with (first
    | (go_at_call 20; (with_reducible refine Calls.mono (valid_any _ _ _) ?_); rintro e wz ⟨rfl, hb⟩; have hs := hB.size; replace hB := Below.trans (B := w.heap.size) (a := w) (by (repeat (first | assumption | exact Below.refl _ _ | refine Below.setCell ?_ (by first | (simp; done) | omega | (simp; omega)) _ | refine Below.alloc ?_ (by first | (simp; done) | omega | (simp; omega)) _ | refine below_drewN ?_ _ | refine Below.drew ?_))) (hb.mono (by first | omega | (simp; omega))); clear hs; clear kx ky; replace hX := hX.below hb; have kx := hX.2.1; have ky := hX.2.2; clear hb)
    | (go_at_call 25; (with_reducible refine Calls.mono (drive_any _ _ _ _ (by assumption) (by assumption)) ?_); rintro e wz ⟨rfl, hb⟩; have hs := hB.size; replace hB := Below.trans (B := w.heap.size) (a := w) (by (repeat (first | assumption | exact Below.refl _ _ | refine Below.setCell ?_ (by first | (simp; done) | omega | (simp; omega)) _ | refine Below.alloc ?_ (by first | (simp; done) | omega | (simp; omega)) _ | refine below_drewN ?_ _ | refine Below.drew ?_))) (hb.mono (by first | omega | (simp; omega))); clear hs; clear kx ky; replace hX := hX.below hb; have kx := hX.2.1; have ky := hX.2.2; clear hb)
    | (go_at_call 31; (with_reducible refine Calls.mono (to_any _ _ _) ?_); rintro e wz ⟨rfl, hb⟩; have hs := hB.size; replace hB := Below.trans (B := w.heap.size) (a := w) (by (repeat (first | assumption | exact Below.refl _ _ | refine Below.setCell ?_ (by first | (simp; done) | omega | (simp; omega)) _ | refine Below.alloc ?_ (by first | (simp; done) | omega | (simp; omega)) _ | refine below_drewN ?_ _ | refine Below.drew ?_))) (hb.mono (by first | omega | (simp; omega))); clear hs; clear kx ky; replace hX := hX.below hb; have kx := hX.2.1; have ky := hX.2.2; clear hb)
    | (go_at_call 33; (with_reducible refine Calls.mono (within_any _ _ _ _ _) ?_); rintro e wz ⟨rfl, hb⟩; have hs := hB.size; replace hB := Below.trans (B := w.heap.size) (a := w) (by (repeat (first | assumption | exact Below.refl _ _ | refine Below.setCell ?_ (by first | (simp; done) | omega | (simp; omega)) _ | refine Below.alloc ?_ (by first | (simp; done) | omega | (simp; omega)) _ | refine below_drewN ?_ _ | refine Below.drew ?_))) (hb.mono (by first | omega | (simp; omega))); clear hs; clear kx ky; replace hX := hX.below hb; have kx := hX.2.1; have ky := hX.2.2; clear hb)
    | (go_at_call 21; (with_reducible refine Calls.mono (read_any _ _ _) ?_); rintro e wz ⟨rfl, hb⟩; have hs := hB.size; replace hB := Below.trans (B := w.heap.size) (a := w) (by (repeat (first | assumption | exact Below.refl _ _ | refine Below.setCell ?_ (by first | (simp; done) | omega | (simp; omega)) _ | refine Below.alloc ?_ (by first | (simp; done) | omega | (simp; omega)) _ | refine below_drewN ?_ _ | refine Below.drew ?_))) (hb.mono (by first | omega | (simp; omega))); clear hs; clear kx ky; replace hX := hX.below hb; have kx := hX.2.1; have ky := hX.2.2; clear hb)
    | (go_at_call 35; (with_reducible refine (same_any _ _ _).mono ?_); rintro e wz ⟨rfl, rfl⟩)
    | (go_at_call 13; (with_reducible refine Calls.mono (awake_any _ ?_) ?_); (exact Names.over HN (by assumption)); rintro e wz ⟨rfl, hb⟩; have hs := hB.size; replace hB := Below.trans (B := w.heap.size) (a := w) (by (repeat (first | assumption | exact Below.refl _ _ | refine Below.setCell ?_ (by first | (simp; done) | omega | (simp; omega)) _ | refine Below.alloc ?_ (by first | (simp; done) | omega | (simp; omega)) _ | refine below_drewN ?_ _ | refine Below.drew ?_))) (hb.mono (by first | omega | (simp; omega))); clear hs; clear kx ky; replace hX := hX.below hb; have kx := hX.2.1; have ky := hX.2.2; clear hb))
      go_ret
      exact ⟨rfl, hB⟩

end Go.Proofs.YtiggmncjmkeboaaDoor
