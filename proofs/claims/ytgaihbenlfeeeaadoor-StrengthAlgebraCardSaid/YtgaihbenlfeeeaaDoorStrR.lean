/-
  The contracts of the reference implementation's plain functions.
-/
import Derived.Test.YtgaihbenlfeeeaaDoorStrP
import Derived.RegionTactic
import Derived.Deep.RegionWith
namespace Go.Proofs.YtgaihbenlfeeeaaDoor
open Go.RowKit
set_option linter.unusedSimpArgs false

set_option maxHeartbeats 400000 in
theorem rlimited_any (a : Int) (w : World) :
    Calls Tryd.prog 39 #[.int .i8 a] w fun e w' => e = .returned (.int .i8 (clp a)) ∧ w' = w := by
  go_enter Tryd.func39, Tryd.ntmps39
  go_wp2
  all_goals
    go_ret
    exact ⟨ret_int (by unfold clp; omega), rfl⟩

set_option maxHeartbeats 1000000 in
theorem rnorm_any (a b : Int) (w : World) :
    Calls Tryd.prog 19 #[iv a b] w (Mk (iv (nLo a b) (nHi a b)) w) := by
  go_enter Tryd.func19, Tryd.ntmps19
  go_wp2
  go_region_with ((go_at_call 39; (with_reducible refine (rlimited_any _ _).mono ?_); rintro e w' ⟨rfl, rfl⟩))
  all_goals
    go_wp2
  all_goals
    exact bodyPost_ret (v := iv (nLo a b) (nHi a b)) (by simp [results, Tryd.results19, go_sem]; unfold nLo nHi; constructor <;> omega) rfl ⟨rfl, by (repeat (first | exact Below.refl _ _ | assumption | refine Below.setCell ?_ (by first | (simp; done) | (simp; omega) | omega) _ | refine Below.alloc ?_ (by first | (simp; done) | (simp; omega) | omega) _ | refine below_drewN ?_ _ | refine Below.drew ?_))⟩

set_option maxHeartbeats 400000 in
theorem rread_any (a b : Int) (w : World) :
    Calls Tryd.prog 22 #[iv a b] w (Mk (.int .u8 (mRead a b)) w) := by
  have hle := nLo_le a b
  go_enter Tryd.func22, Tryd.ntmps22
  go_wp2_with ((go_at_call 19; (with_reducible refine (rnorm_any _ _ _).mono ?_); rintro e w' ⟨rfl, hb⟩; obtain ⟨hc, hf⟩ := bcell hb))
  all_goals
    go_ret
    exact ⟨ret_int (by unfold mRead; (repeat' split) <;> simp_all <;> omega), by (repeat (first | exact Below.refl _ _ | assumption | refine Below.setCell ?_ (by first | (simp; done) | (simp; omega) | omega) _ | refine Below.alloc ?_ (by first | (simp; done) | (simp; omega) | omega) _ | refine below_drewN ?_ _ | refine Below.drew ?_ | refine Below.trans ?_ (Below.mono hb (by first | (simp; done) | (simp; omega) | omega))))⟩

set_option maxHeartbeats 400000 in
theorem rhas_any (a b n : Int) (w : World) :
    Calls Tryd.prog 24 #[iv a b, .int .i64 n] w (Mk (.bool (mHas a b n)) w) := by
  obtain ⟨b1, b2⟩ := nLo_bd a b
  obtain ⟨b3, b4⟩ := nHi_bd a b
  go_enter Tryd.func24, Tryd.ntmps24
  go_wp2_with ((go_at_call 19; (with_reducible refine (rnorm_any _ _ _).mono ?_); rintro e w' ⟨rfl, hb⟩; obtain ⟨hc, hf⟩ := bcell hb))
  all_goals
    go_ret
    exact ⟨ret_bool (by simp [mHas]; omega), by (repeat (first | exact Below.refl _ _ | assumption | refine Below.setCell ?_ (by first | (simp; done) | (simp; omega) | omega) _ | refine Below.alloc ?_ (by first | (simp; done) | (simp; omega) | omega) _ | refine below_drewN ?_ _ | refine Below.drew ?_ | refine Below.trans ?_ (Below.mono hb (by first | (simp; done) | (simp; omega) | omega))))⟩

set_option maxHeartbeats 400000 in
theorem rdrive_any (b s t : Int) (w : World) (h0 : 0 ≤ s) (h1 : 0 ≤ t) :
    Calls Tryd.prog 26 #[.int .u8 b, .int .u8 s, .int .u8 t] w (Mk (iv (dLo b s t) (dHi b s t)) w) := by
  go_enter Tryd.func26, Tryd.ntmps26
  go_wp2
  all_goals
    refine bodyPost_ret (v := iv (dLo b s t) (dHi b s t)) (by simp [results, Tryd.results26, go_sem]; simp_all [dLo, dHi, hgh] <;> omega) rfl ⟨rfl, by (repeat (first | exact Below.refl _ _ | assumption | refine Below.setCell ?_ (by first | (simp; done) | (simp; omega) | omega) _ | refine Below.alloc ?_ (by first | (simp; done) | (simp; omega) | omega) _ | refine below_drewN ?_ _ | refine Below.drew ?_))⟩

def nmCells : Array Value := #[.string (nmB 0), .string (nmB 1), .string (nmB 2), .string (nmB 3), .string (nmB 4), .string (nmB 5), .string (nmB 6), .string (nmB 7)]
theorem nmCells_at (k : Nat) (h : k < 8) : nmCells[k]? = some (.string (nmB k)) := by
  match k, h with
  | 0, _ | 1, _ | 2, _ | 3, _ | 4, _ | 5, _ | 6, _ | 7, _ => rfl

set_option maxHeartbeats 400000 in
theorem rnames_any (w : World) :
    Calls Tryd.prog 43 #[] w fun e w' => e = .returned (.slice (some ⟨w.heap.size, 0, none⟩) 8 8) ∧ w' = w.alloc (.cells nmCells 9) := by
  go_enter Tryd.func43, Tryd.ntmps43
  go_wp2
  go_ret
  exact ⟨rfl, rfl⟩

theorem cell_names (w : World) (k : Nat) (h : k < 8) : (w.alloc (.cells nmCells 9)).cell? ⟨w.heap.size, k, none⟩ = some (.string (nmB k)) := by
  rw [← nmCells_at k h]
  have h := (show (w.alloc (.cells nmCells 9)).heap[w.heap.size]? = some (.cells nmCells 9 (0, 0)) by show (w.heap.push _)[w.heap.size]? = _; simp)
  unfold World.cell?
  simp only [h]
  rfl

theorem radd_any (k : Nat) (v : Bool) (s : Int) (h : k = (hgh s).toNat) (w : World) : (Op.stringOp .add (nmB k) (nmD v)).run Tryd.prog w = .ok (.string (nmF s v)) w := by
  rw [run_string_add_sum w _ _ (by have := nmB_size k; have : (nmD v).size = 1 := (by cases v <;> rfl); omega), h]
  rfl

set_option maxHeartbeats 400000 in
theorem rname_any (s : Int) (v : Bool) (w : World) (h0 : 0 ≤ s) :
    Calls Tryd.prog 28 #[.int .u8 s, .bool v] w (Mk (.string (nmF s v)) w) := by
  by_cases h7 : 7 < s
  · have hc := cell_names w 7 (by omega)
    cases v
    · have ha : ∀ w, (Op.stringOp .add (nmB 7) ⟨#[48]⟩).run Tryd.prog w = .ok (.string (nmF s false)) w := radd_any 7 false s (by unfold hgh; omega)
      go_enter Tryd.func28, Tryd.ntmps28
      go_wp2_with ((go_at_call 43; (with_reducible refine (rnames_any _).mono ?_); rintro e w' ⟨rfl, rfl⟩))
      go_ret
      exact ⟨rfl, by (repeat (first | exact Below.refl _ _ | assumption | refine Below.setCell ?_ (by first | (simp; done) | (simp; omega) | omega) _ | refine Below.alloc ?_ (by first | (simp; done) | (simp; omega) | omega) _ | refine below_drewN ?_ _ | refine Below.drew ?_))⟩
    · have ha : ∀ w, (Op.stringOp .add (nmB 7) ⟨#[49]⟩).run Tryd.prog w = .ok (.string (nmF s true)) w := radd_any 7 true s (by unfold hgh; omega)
      go_enter Tryd.func28, Tryd.ntmps28
      go_wp2_with ((go_at_call 43; (with_reducible refine (rnames_any _).mono ?_); rintro e w' ⟨rfl, rfl⟩))
      go_ret
      exact ⟨rfl, by (repeat (first | exact Below.refl _ _ | assumption | refine Below.setCell ?_ (by first | (simp; done) | (simp; omega) | omega) _ | refine Below.alloc ?_ (by first | (simp; done) | (simp; omega) | omega) _ | refine below_drewN ?_ _ | refine Below.drew ?_))⟩
  · have hc := cell_names w s.toNat (by omega)
    have h8 : s < 8 := by omega
    cases v
    · have ha : ∀ w, (Op.stringOp .add (nmB s.toNat) ⟨#[48]⟩).run Tryd.prog w = .ok (.string (nmF s false)) w := radd_any s.toNat false s (by unfold hgh; omega)
      go_enter Tryd.func28, Tryd.ntmps28
      go_wp2_with ((go_at_call 43; (with_reducible refine (rnames_any _).mono ?_); rintro e w' ⟨rfl, rfl⟩))
      go_ret
      exact ⟨rfl, by (repeat (first | exact Below.refl _ _ | assumption | refine Below.setCell ?_ (by first | (simp; done) | (simp; omega) | omega) _ | refine Below.alloc ?_ (by first | (simp; done) | (simp; omega) | omega) _ | refine below_drewN ?_ _ | refine Below.drew ?_))⟩
    · have ha : ∀ w, (Op.stringOp .add (nmB s.toNat) ⟨#[49]⟩).run Tryd.prog w = .ok (.string (nmF s true)) w := radd_any s.toNat true s (by unfold hgh; omega)
      go_enter Tryd.func28, Tryd.ntmps28
      go_wp2_with ((go_at_call 43; (with_reducible refine (rnames_any _).mono ?_); rintro e w' ⟨rfl, rfl⟩))
      go_ret
      exact ⟨rfl, by (repeat (first | exact Below.refl _ _ | assumption | refine Below.setCell ?_ (by first | (simp; done) | (simp; omega) | omega) _ | refine Below.alloc ?_ (by first | (simp; done) | (simp; omega) | omega) _ | refine below_drewN ?_ _ | refine Below.drew ?_))⟩

set_option maxHeartbeats 1000000 in
theorem rparse_any (name : ByteArray) (w : World) :
    Calls Tryd.prog 30 #[.string name] w (Mk (Tri name) w) := by
  go_enter Tryd.func30, Tryd.ntmps30
  go_wp2
  go_loopw [5] (fun i wr => ∃ k : Nat, k ≤ 8 ∧ i = .int .u8 k ∧ NoHit name (2 * k) ∧ Below w.heap.size w wr) (fun i _ => 8 - (intOf i).toNat)
  case atStart => exact ⟨0, by omega, rfl, NoHit.zero _, Below.refl _ _⟩
  case round =>
    obtain ⟨k, hk, rfl, hno, hB⟩ := hrel
    have hk0 : (0 : Int) ≤ k := by omega
    by_cases hlt : k < 8
    · by_cases h0 : nmF k false = name
      · have ht := Lib.hid (hit_0 hno h0 hlt)
        have he2 : (name.toList == (nmF k false).toList) = true := str_t h0.symm
        clear h0 hno
        go_wp2_with ((go_at_call 28; (with_reducible refine (rname_any _ _ _ (by assumption)).mono ?_); rintro e wa ⟨rfl, hb⟩))
        go_ret3
        exact ⟨congrArg Ending.returned ht.out.symm, hB.trans (hb.mono hB.size)⟩
      · have hn1 := hno.succ (by rw [nmJ_0]; exact h0)
        have he2 : (name.toList == (nmF k false).toList) = false := str_f fun h => h0 h.symm
        clear h0 hno
        by_cases h1 : nmF k true = name
        · have ht := Lib.hid (hit_1 hn1 h1 hlt)
          have he3 : (name.toList == (nmF k true).toList) = true := str_t h1.symm
          clear h1 hn1
          go_wp2_with fail
          refine (rname_any _ _ _ (by assumption)).mono ?_
          rintro e wa ⟨rfl, hb⟩
          have hB1 := hB.trans (hb.mono hB.size)
          clear hb hB
          go_wp2_with fail
          refine (rname_any _ _ _ (by assumption)).mono ?_
          rintro e wb ⟨rfl, hb⟩
          go_wp2_with fail
          go_ret3
          exact ⟨congrArg Ending.returned ht.out.symm, hB1.trans (hb.mono hB1.size)⟩
        · have hn2 := hn1.succ (by rw [nmJ_1]; exact h1)
          have he3 : (name.toList == (nmF k true).toList) = false := str_f fun h => h1 h.symm
          clear h1 hn1
          go_wp2_with fail
          refine (rname_any _ _ _ (by assumption)).mono ?_
          rintro e wa ⟨rfl, hb⟩
          have hB1 := hB.trans (hb.mono hB.size)
          clear hb hB
          go_wp2_with fail
          refine (rname_any _ _ _ (by assumption)).mono ?_
          rintro e wb ⟨rfl, hb⟩
          have hB2 := hB1.trans (hb.mono hB1.size)
          clear hb hB1
          go_wp2_with fail
          go_roundw
          case rel => exact ⟨k + 1, by omega, by go_num, by rw [show 2 * (k + 1) = 2 * k + 1 + 1 by omega]; exact hn2, hB2⟩
          case measure => simp [intOf]; omega
    · have hm := miss (show NoHit name 16 by rw [show 16 = 2 * k by omega]; exact hno)
      have Hm := Lib.hid hm
      have hlt' : (8 : Int) ≤ k := by omega
      clear hm hno
      go_wp2
      go_ret3
      exact ⟨congrArg Ending.returned Hm.out.symm, hB⟩

end Go.Proofs.YtgaihbenlfeeeaaDoor
