/-
  The walk of StrengthExamples.
-/
import Derived.Test.YtiggmncjmkeboaaDoorStrL8a
import Derived.Deep.DeepCutAuto
namespace Go.Proofs.YtiggmncjmkeboaaDoor
open Go.RowKit
set_option linter.unusedSimpArgs false

set_option maxRecDepth 100000 in
set_option maxHeartbeats 16000000 in
theorem StrengthExamples_walk (w : World) (hN : Names w) : Calls Tryd.prog 6 #[] w (Mk (.bool true) w) := by
  have HN := hide hN
  clear hN
  have hB : Below w.heap.size w w := Below.refl _ _
  go_enter Tryd.func6, Tryd.ntmps6
  go_wp2_with (first
    | (go_at_call 13; (with_reducible refine Calls.mono (awake_any _ ?_) ?_); (exact Names.over HN (by assumption)); rintro e wz ⟨rfl, hb⟩; have hs := hB.size; replace hB := Below.trans (B := w.heap.size) (a := w) (by (repeat (first | assumption | exact Below.refl _ _ | refine Below.setCell ?_ (by first | (simp; done) | omega | (simp; omega)) _ | refine Below.alloc ?_ (by first | (simp; done) | omega | (simp; omega)) _ | refine below_drewN ?_ _ | refine Below.drew ?_))) (hb.mono (by first | omega | (simp; omega))); clear hs; clear hb))
  go_loopw [1, 2] (fun v i wr => ∃ k : Nat, k ≤ 9 ∧ i = .int .u8 k ∧ v = .string (allS k) ∧ Below w.heap.size w wr) (fun _ i _ => 9 - (intOf i).toNat)
  case atStart => exact ⟨0, by omega, rfl, rfl, hB⟩
  case round =>
    clear hB
    obtain ⟨k, hk, rfl, rfl, hB⟩ := hrel
    have hk0 : (0 : Int) ≤ (k : Int) := by omega
    by_cases hlt : k < 9
    · have z0 := allS_size k
      have z1 := nmF_size k false
      have z2 := nmF_size k true
      have z3 : (ByteArray.mk #[32]).size = 1 := rfl
      have a1 := add_s (allS k) (nmF k false) (by omega) (by omega)
      have a2 := add_s (allS k ++ nmF k false) ⟨#[32]⟩ (by rw [ByteArray.size_append]; omega) (by omega)
      have a3 := add_s (allS k ++ nmF k false ++ ⟨#[32]⟩) (nmF k true) (by simp only [ByteArray.size_append]; omega) (by omega)
      have a4 := add_s (allS k ++ nmF k false ++ ⟨#[32]⟩ ++ nmF k true) ⟨#[32]⟩ (by simp only [ByteArray.size_append]; omega) (by omega)
      clear z0 z1 z2 z3
      go_wp2_with (first
    | (go_at_call 27; (with_reducible refine Calls.mono (name_n _ _ _ (by assumption) ?_) ?_); (exact Names.over HN (by assumption)); rintro e wz ⟨rfl, hb⟩; have hs := hB.size; replace hB := Below.trans (B := w.heap.size) (a := w) (by (repeat (first | assumption | exact Below.refl _ _ | refine Below.setCell ?_ (by first | (simp; done) | omega | (simp; omega)) _ | refine Below.alloc ?_ (by first | (simp; done) | omega | (simp; omega)) _ | refine below_drewN ?_ _ | refine Below.drew ?_))) (hb.mono (by first | omega | (simp; omega))); clear hs; clear hb))
      go_roundw
      case rel => exact ⟨k + 1, by omega, by go_num, rfl, hB⟩
      case measure => simp [intOf]; omega
    · obtain rfl : k = 9 := by omega
      clear hk0 hlt hk
      have T1 := hide tri_1
      have T2 := hide tri_2
      have T3 := hide tri_3
      have T4 := hide tri_4
      go_upto_region 12 with (first
    | (go_at_call 29; (with_reducible refine Calls.mono (parse_e ⟨#[112, 117, 108, 108]⟩ 0 false false _ ?_ T1) ?_); (exact Names.over HN (by assumption)); rintro e wz ⟨rfl, hb⟩; have hs := hB.size; replace hB := Below.trans (B := w.heap.size) (a := w) (by (repeat (first | assumption | exact Below.refl _ _ | refine Below.setCell ?_ (by first | (simp; done) | omega | (simp; omega)) _ | refine Below.alloc ?_ (by first | (simp; done) | omega | (simp; omega)) _ | refine below_drewN ?_ _ | refine Below.drew ?_))) (hb.mono (by first | omega | (simp; omega))); clear hs; clear hb)
    | (go_at_call 29; (with_reducible refine Calls.mono (parse_e ⟨#[80, 117, 108, 108, 49]⟩ 0 false false _ ?_ T2) ?_); (exact Names.over HN (by assumption)); rintro e wz ⟨rfl, hb⟩; have hs := hB.size; replace hB := Below.trans (B := w.heap.size) (a := w) (by (repeat (first | assumption | exact Below.refl _ _ | refine Below.setCell ?_ (by first | (simp; done) | omega | (simp; omega)) _ | refine Below.alloc ?_ (by first | (simp; done) | omega | (simp; omega)) _ | refine below_drewN ?_ _ | refine Below.drew ?_))) (hb.mono (by first | omega | (simp; omega))); clear hs; clear hb)
    | (go_at_call 29; (with_reducible refine Calls.mono (parse_e ⟨#[112, 117, 108, 108, 50]⟩ 0 false false _ ?_ T3) ?_); (exact Names.over HN (by assumption)); rintro e wz ⟨rfl, hb⟩; have hs := hB.size; replace hB := Below.trans (B := w.heap.size) (a := w) (by (repeat (first | assumption | exact Below.refl _ _ | refine Below.setCell ?_ (by first | (simp; done) | omega | (simp; omega)) _ | refine Below.alloc ?_ (by first | (simp; done) | omega | (simp; omega)) _ | refine below_drewN ?_ _ | refine Below.drew ?_))) (hb.mono (by first | omega | (simp; omega))); clear hs; clear hb)
    | (go_at_call 29; (with_reducible refine Calls.mono (parse_e ⟨#[115, 117, 112, 112, 108, 121, 49]⟩ 7 true true _ ?_ T4) ?_); (exact Names.over HN (by assumption)); rintro e wz ⟨rfl, hb⟩; have hs := hB.size; replace hB := Below.trans (B := w.heap.size) (a := w) (by (repeat (first | assumption | exact Below.refl _ _ | refine Below.setCell ?_ (by first | (simp; done) | omega | (simp; omega)) _ | refine Below.alloc ?_ (by first | (simp; done) | omega | (simp; omega)) _ | refine below_drewN ?_ _ | refine Below.drew ?_))) (hb.mono (by first | omega | (simp; omega))); clear hs; clear hb))
      clear T1 T2 T3 T4
      have e9 := all_list
      simp only [List.append_eq, List.cons_append, List.nil_append]
      go_wp2_with fail
      clear e9
      refine (to_any (100) (-128) _).mono ?_
      rintro e wz ⟨rfl, hb⟩
      replace hB := hB.trans (hb.mono hB.size)
      clear hb
      go_wp2_with fail
      refine (normx_r 100 (-128) (-7) 7 _ (by decide) (by decide)).mono ?_
      rintro e wz ⟨rfl, hb⟩
      replace hB := hB.trans (hb.mono hB.size)
      clear hb
      go_wp2_with fail
      refine (to_any (-7) (7) _).mono ?_
      rintro e wz ⟨rfl, hb⟩
      replace hB := hB.trans (hb.mono hB.size)
      clear hb
      go_wp2_with fail
      refine (to_any (3) (1) _).mono ?_
      rintro e wz ⟨rfl, hb⟩
      replace hB := hB.trans (hb.mono hB.size)
      clear hb
      go_wp2_with fail
      refine (normx_r 3 1 1 3 _ (by decide) (by decide)).mono ?_
      rintro e wz ⟨rfl, hb⟩
      replace hB := hB.trans (hb.mono hB.size)
      clear hb
      go_wp2_with fail
      refine (to_any (1) (3) _).mono ?_
      rintro e wz ⟨rfl, hb⟩
      replace hB := hB.trans (hb.mono hB.size)
      clear hb
      go_wp2_with fail
      refine (to_any (3) (1) _).mono ?_
      rintro e wz ⟨rfl, hb⟩
      replace hB := hB.trans (hb.mono hB.size)
      clear hb
      go_wp2_with fail
      refine (validx_r 3 1 false _ (by decide)).mono ?_
      rintro e wz ⟨rfl, hb⟩
      replace hB := hB.trans (hb.mono hB.size)
      clear hb
      go_wp2_with fail
      refine (to_any (-8) (0) _).mono ?_
      rintro e wz ⟨rfl, hb⟩
      replace hB := hB.trans (hb.mono hB.size)
      clear hb
      go_wp2_with fail
      refine (validx_r (-8) 0 false _ (by decide)).mono ?_
      rintro e wz ⟨rfl, hb⟩
      replace hB := hB.trans (hb.mono hB.size)
      clear hb
      go_wp2_with fail
      refine (to_any (0) (8) _).mono ?_
      rintro e wz ⟨rfl, hb⟩
      replace hB := hB.trans (hb.mono hB.size)
      clear hb
      go_wp2_with fail
      refine (validx_r 0 8 false _ (by decide)).mono ?_
      rintro e wz ⟨rfl, hb⟩
      replace hB := hB.trans (hb.mono hB.size)
      clear hb
      go_wp2_with fail
      refine (to_any (-7) (7) _).mono ?_
      rintro e wz ⟨rfl, hb⟩
      replace hB := hB.trans (hb.mono hB.size)
      clear hb
      go_wp2_with fail
      refine (validx_r (-7) 7 true _ (by decide)).mono ?_
      rintro e wz ⟨rfl, hb⟩
      replace hB := hB.trans (hb.mono hB.size)
      clear hb
      go_wp2_with fail
      refine (drive_r 7 9 200 (-7) 7 _ (by decide) (by decide) (by decide) (by decide)).mono ?_
      rintro e wz ⟨rfl, hb⟩
      replace hB := hB.trans (hb.mono hB.size)
      clear hb
      go_wp2_with fail
      refine (to_any (-7) (7) _).mono ?_
      rintro e wz ⟨rfl, hb⟩
      replace hB := hB.trans (hb.mono hB.size)
      clear hb
      go_wp2_with fail
      refine (drive_r 0 0 6 0 0 _ (by decide) (by decide) (by decide) (by decide)).mono ?_
      rintro e wz ⟨rfl, hb⟩
      replace hB := hB.trans (hb.mono hB.size)
      clear hb
      go_wp2_with fail
      refine (to_any (0) (0) _).mono ?_
      rintro e wz ⟨rfl, hb⟩
      replace hB := hB.trans (hb.mono hB.size)
      clear hb
      go_wp2_with fail
      refine (to_any (5) (-5) _).mono ?_
      rintro e wz ⟨rfl, hb⟩
      replace hB := hB.trans (hb.mono hB.size)
      clear hb
      go_wp2_with fail
      refine (read_r 5 (-5) 2 _ (by decide)).mono ?_
      rintro e wz ⟨rfl, hb⟩
      replace hB := hB.trans (hb.mono hB.size)
      clear hb
      go_wp2_with fail
      refine (to_any (-7) (-1) _).mono ?_
      rintro e wz ⟨rfl, hb⟩
      replace hB := hB.trans (hb.mono hB.size)
      clear hb
      go_wp2_with fail
      refine (read_r (-7) (-1) 0 _ (by decide)).mono ?_
      rintro e wz ⟨rfl, hb⟩
      replace hB := hB.trans (hb.mono hB.size)
      clear hb
      go_wp2_with fail
      refine (to_any (-7) (0) _).mono ?_
      rintro e wz ⟨rfl, hb⟩
      replace hB := hB.trans (hb.mono hB.size)
      clear hb
      go_wp2_with fail
      refine (read_r (-7) 0 2 _ (by decide)).mono ?_
      rintro e wz ⟨rfl, hb⟩
      replace hB := hB.trans (hb.mono hB.size)
      clear hb
      go_wp2_with fail
      refine (combx_0 _ _ _).mono ?_
      rintro e wz ⟨rfl, hb⟩
      replace hB := hB.trans (hb.mono hB.size)
      clear hb
      go_wp2_with fail
      refine (to_any (0) (0) _).mono ?_
      rintro e wz ⟨rfl, hb⟩
      replace hB := hB.trans (hb.mono hB.size)
      clear hb
      go_wp2_with fail
      refine (to_any (9) (9) _).mono ?_
      rintro e wz ⟨rfl, hb⟩
      replace hB := hB.trans (hb.mono hB.size)
      clear hb
      go_wp2_with fail
      refine (comb1_r 9 9 7 7 _ _ (by decide) (by decide)).mono ?_
      rintro e wz ⟨rfl, hb⟩
      replace hB := (hB.alloc hB.size _).trans (hb.mono (by have := hB.size; simp; omega))
      clear hb
      go_wp2_with fail
      refine (to_any (7) (7) _).mono ?_
      rintro e wz ⟨rfl, hb⟩
      replace hB := hB.trans (hb.mono hB.size)
      clear hb
      go_wp2_with fail
      refine (to_any (-2) (6) _).mono ?_
      rintro e wz ⟨rfl, hb⟩
      replace hB := hB.trans (hb.mono hB.size)
      clear hb
      go_wp2_with fail
      refine (to_any (4) (4) _).mono ?_
      rintro e wz ⟨rfl, hb⟩
      replace hB := hB.trans (hb.mono hB.size)
      clear hb
      go_wp2_with fail
      refine (comb2_r (-2) 6 4 4 4 6 _ _ (by decide) (by decide)).mono ?_
      rintro e wz ⟨rfl, hb⟩
      replace hB := (hB.alloc hB.size _).trans (hb.mono (by have := hB.size; simp; omega))
      clear hb
      go_wp2_with fail
      refine (to_any (4) (6) _).mono ?_
      rintro e wz ⟨rfl, hb⟩
      replace hB := hB.trans (hb.mono hB.size)
      clear hb
      go_wp2_with fail
      refine (to_any (-6) (2) _).mono ?_
      rintro e wz ⟨rfl, hb⟩
      replace hB := hB.trans (hb.mono hB.size)
      clear hb
      go_wp2_with fail
      refine (to_any (4) (4) _).mono ?_
      rintro e wz ⟨rfl, hb⟩
      replace hB := hB.trans (hb.mono hB.size)
      clear hb
      go_wp2_with fail
      refine (comb2_r (-6) 2 4 4 (-6) 4 _ _ (by decide) (by decide)).mono ?_
      rintro e wz ⟨rfl, hb⟩
      replace hB := (hB.alloc hB.size _).trans (hb.mono (by have := hB.size; simp; omega))
      clear hb
      go_wp2_with fail
      refine (to_any (-6) (4) _).mono ?_
      rintro e wz ⟨rfl, hb⟩
      replace hB := hB.trans (hb.mono hB.size)
      clear hb
      go_wp2_with fail
      refine (to_any (1) (3) _).mono ?_
      rintro e wz ⟨rfl, hb⟩
      replace hB := hB.trans (hb.mono hB.size)
      clear hb
      go_wp2_with fail
      refine (has_r 1 3 4 false _ (by decide)).mono ?_
      rintro e wz ⟨rfl, hb⟩
      replace hB := hB.trans (hb.mono hB.size)
      clear hb
      go_wp2_with fail
      refine (to_any (3) (1) _).mono ?_
      rintro e wz ⟨rfl, hb⟩
      replace hB := hB.trans (hb.mono hB.size)
      clear hb
      go_wp2_with fail
      refine (has_r 3 1 2 true _ (by decide)).mono ?_
      rintro e wz ⟨rfl, hb⟩
      replace hB := hB.trans (hb.mono hB.size)
      clear hb
      go_wp2_with fail
      refine (to_any (-7) (7) _).mono ?_
      rintro e wz ⟨rfl, hb⟩
      replace hB := hB.trans (hb.mono hB.size)
      clear hb
      go_wp2_with fail
      refine (has_r (-7) 7 1099511627776 false _ (by decide)).mono ?_
      rintro e wz ⟨rfl, hb⟩
      replace hB := hB.trans (hb.mono hB.size)
      clear hb
      go_wp2_with fail
      go_ret
      exact ⟨rfl, hB⟩

end Go.Proofs.YtiggmncjmkeboaaDoor
