/-
  The contracts of package strength's plain functions: each answers as the mathematics says, and memory that was there is as it was.
-/
import Derived.Test.YtgaihbenlfeeeaaDoorProg
import Derived.Test.YtgaihbenlfeeeaaDoorStrM
import Derived.WalkKit
import Derived.WalkSpells
import Derived.WalkLawsBesides
import Derived.Deep.QuietTactic
import Derived.BigQuiet
import Derived.Lib.Hide
import Derived.Below
import Derived.Outline
import Derived.Deep.RegionHeld3
import Derived.OwnWalk
namespace Go.Proofs.YtgaihbenlfeeeaaDoor
open Go.RowKit

/-- What a call that makes memory leaves: its answer; what was there is as it was. -/
def Mk (v : Value) (w : World) (e : Ending) (w' : World) : Prop := e = .returned v ∧ Below w.heap.size w w'
abbrev iv (a b : Int) : Value := .agg #[.int .i8 a, .int .i8 b]
theorem below_drewN {B : Nat} {a w : World} (h : Below B a w) (n : Nat) : Below B a (w.drewN n) := ⟨h.os, h.tape, h.output, h.size, h.block⟩
theorem bcell {W w1 : World} (hb : Below W.heap.size W w1) : (∀ b o, b < W.heap.size → w1.cell? ⟨b, o, none⟩ = W.cell? ⟨b, o, none⟩) ∧ (∀ b o, b < W.heap.size → w1.frozen? ⟨b, o, none⟩ = W.frozen? ⟨b, o, none⟩) :=
  ⟨fun b o h => hb.cell (p := ⟨b, o, none⟩) h, fun b o h => hb.frozen (p := ⟨b, o, none⟩) h⟩
theorem ret_int {k : IntKind} {a b : Int} (h : a = b) : Ending.returned (.int k a) = .returned (.int k b) := by rw [h]
theorem ret_iv {a b c d : Int} (h : a = c) (k : b = d) : Ending.returned (iv a b) = .returned (iv c d) := by rw [h, k]
theorem ret_bool {a b : Bool} (h : a = b) : Ending.returned (.bool a) = .returned (.bool b) := by rw [h]

set_option maxHeartbeats 400000 in
theorem clamp_any (a : Int) (w : World) :
    Calls Tryd.prog 38 #[.int .i8 a] w fun e w' => e = .returned (.int .i8 (clp a)) ∧ w' = w := by
  go_enter Tryd.func38, Tryd.ntmps38
  go_wp2
  all_goals
    go_ret
    exact ⟨ret_int (by unfold clp; omega), rfl⟩

set_option maxHeartbeats 400000 in
theorem magnitude_any (a : Int) (w : World) (h0 : -7 ≤ a) (h1 : a ≤ 7) :
    Calls Tryd.prog 46 #[.int .i8 a] w fun e w' => e = .returned (.int .i8 (mag a)) ∧ w' = w := by
  go_enter Tryd.func46, Tryd.ntmps46
  go_wp2
  all_goals
    go_ret
    exact ⟨ret_int (by unfold mag; omega), rfl⟩

set_option maxHeartbeats 400000 in
theorem highest_any (a : Int) (w : World) (h0 : 0 ≤ a) :
    Calls Tryd.prog 40 #[.int .u8 a] w fun e w' => e = .returned (.int .i8 (hgh a)) ∧ w' = w := by
  go_enter Tryd.func40, Tryd.ntmps40
  go_wp2
  all_goals
    go_ret
    exact ⟨ret_int (by unfold hgh; omega), rfl⟩

set_option maxHeartbeats 400000 in
theorem to_any (a b : Int) (w : World) :
    Calls Tryd.prog 31 #[.int .i8 a, .int .i8 b] w (Mk (iv a b) w) := by
  go_enter Tryd.func31, Tryd.ntmps31
  go_wp2
  exact bodyPost_ret (v := iv a b) (by simp [results, Tryd.results31, go_sem]) rfl ⟨rfl, (Below.refl _ _).alloc (Nat.le_refl _) _⟩

def inB (a b c d : Int) : Bool := decide (c ≤ a ∧ b ≤ d)

set_option maxHeartbeats 400000 in
theorem within_any (a b c d : Int) (w : World) :
    Calls Tryd.prog 33 #[iv a b, iv c d] w (Mk (.bool (inB a b c d)) w) := by
  by_cases h : c ≤ a
  · go_enter Tryd.func33, Tryd.ntmps33
    go_wp2
    go_ret
    exact ⟨ret_bool (by simp [inB, h]), ((Below.refl _ _).alloc (Nat.le_refl _) _).alloc (by simp) _⟩
  · have h' : a < c := by omega
    go_enter Tryd.func33, Tryd.ntmps33
    go_wp2
    go_ret
    exact ⟨ret_bool (by unfold inB; exact (decide_eq_false (by omega)).symm), ((Below.refl _ _).alloc (Nat.le_refl _) _).alloc (by simp) _⟩

set_option maxHeartbeats 400000 in
theorem norm_any (a b : Int) (w : World) :
    Calls Tryd.prog 18 #[iv a b] w (Mk (iv (nLo a b) (nHi a b)) w) := by
  go_enter Tryd.func18, Tryd.ntmps18
  go_wp2
  go_quiet ((go_at_call 38; exact Calls.quiet_of_same (clamp_any _ _)))
  go_wp2
  all_goals
    exact bodyPost_ret (v := iv (nLo a b) (nHi a b)) (by simp [results, Tryd.results18, go_sem]; unfold nLo nHi; constructor <;> omega) rfl ⟨rfl, by (repeat (first | exact Below.refl _ _ | refine Below.setCell ?_ (by simp) _ | refine Below.alloc ?_ (by simp) _ | refine below_drewN ?_ _))⟩

set_option maxHeartbeats 400000 in
theorem compete_any (a b : Int) (w : World) (h0 : -7 ≤ a) (h1 : a ≤ 7) (h2 : -7 ≤ b) (h3 : b ≤ 7) :
    Calls Tryd.prog 36 #[.int .i8 a, .int .i8 b] w (Mk (iv (cLo a b) (cHi a b)) w) := by
  go_enter Tryd.func36, Tryd.ntmps36
  go_wp2_with ((go_at_call 46; (with_reducible refine (magnitude_any _ _ (by omega) (by omega)).mono ?_); rintro e w' ⟨rfl, rfl⟩))
  all_goals
    refine bodyPost_ret (v := iv (cLo a b) (cHi a b)) (by simp [results, Tryd.results36, go_sem]; unfold cLo cHi; constructor <;> (repeat' split) <;> omega) rfl ⟨rfl, (Below.refl _ _).alloc (Nat.le_refl _) _⟩

set_option maxHeartbeats 400000 in
theorem drive_any (b s t : Int) (w : World) (h0 : 0 ≤ s) (h1 : 0 ≤ t) :
    Calls Tryd.prog 25 #[.int .u8 b, .int .u8 s, .int .u8 t] w (Mk (iv (dLo b s t) (dHi b s t)) w) := by
  have b1 := hgh_bd h0
  have b2 := hgh_bd h1
  obtain ⟨b11, b12⟩ := b1
  obtain ⟨b21, b22⟩ := b2
  go_enter Tryd.func25, Tryd.ntmps25
  go_wp2_with ((go_at_call 40; (with_reducible refine (highest_any _ _ (by assumption)).mono ?_); rintro e w' ⟨rfl, rfl⟩))
  all_goals
    refine bodyPost_ret (v := iv (dLo b s t) (dHi b s t)) (by simp [results, Tryd.results25, go_sem]; simp_all [dLo, dHi]) rfl ⟨rfl, (Below.refl _ _).alloc (Nat.le_refl _) _⟩

theorem mVal_t {a b : Int} (h : a = nLo a b ∧ b = nHi a b) : mVal a b = true := by simp only [mVal]; exact decide_eq_true h
theorem mVal_f {a b : Int} (h : ¬ (a = nLo a b ∧ b = nHi a b)) : mVal a b = false := by simp only [mVal]; exact decide_eq_false h

set_option maxHeartbeats 400000 in
theorem read_any (a b : Int) (w : World) :
    Calls Tryd.prog 21 #[iv a b] w (Mk (.int .u8 (mRead a b)) w) := by
  go_enter Tryd.func21, Tryd.ntmps21
  go_wp2_with ((go_at_call 18; (with_reducible refine (norm_any _ _ _).mono ?_); rintro e w' ⟨rfl, hb⟩; obtain ⟨hc, hf⟩ := bcell hb))
  all_goals
    go_ret
    exact ⟨ret_int (by unfold mRead; (repeat' split) <;> omega), by (repeat (first | exact Below.refl _ _ | refine Below.setCell ?_ (by simp) _ | refine Below.alloc ?_ (by first | (simp; done) | (simp; omega) | omega) _ | refine below_drewN ?_ _ | refine Below.trans ?_ (Below.mono hb (by simp))))⟩

set_option maxHeartbeats 400000 in
theorem has_any (a b n : Int) (w : World) :
    Calls Tryd.prog 23 #[iv a b, .int .i64 n] w (Mk (.bool (mHas a b n)) w) := by
  obtain ⟨b1, b2⟩ := nLo_bd a b
  obtain ⟨b3, b4⟩ := nHi_bd a b
  go_enter Tryd.func23, Tryd.ntmps23
  go_wp2_with ((go_at_call 18; (with_reducible refine (norm_any _ _ _).mono ?_); rintro e w' ⟨rfl, hb⟩; obtain ⟨hc, hf⟩ := bcell hb))
  all_goals
    go_ret
    exact ⟨ret_bool (by simp [mHas]; omega), by (repeat (first | exact Below.refl _ _ | refine Below.setCell ?_ (by simp) _ | refine Below.alloc ?_ (by first | (simp; done) | (simp; omega) | omega) _ | refine below_drewN ?_ _ | refine Below.trans ?_ (Below.mono hb (by simp))))⟩

theorem hide {p : Prop} (h : p) : Hid p := h

set_option maxHeartbeats 400000 in
theorem valid_any (a b : Int) (w : World) :
    Calls Tryd.prog 20 #[iv a b] w (Mk (.bool (mVal a b)) w) := by
  obtain ⟨p, hp⟩ : ∃ p, p = nLo a b := ⟨_, rfl⟩
  obtain ⟨q, hq⟩ : ∃ q, q = nHi a b := ⟨_, rfl⟩
  have normH : Hid (∀ w, Calls Tryd.prog 18 #[iv a b] w (Mk (iv p q) w)) := hide (by rw [hp, hq]; exact norm_any a b)
  by_cases ha : a = p
  · by_cases hb : b = q
    · rw [mVal_t ⟨by rw [← hp]; exact ha, by rw [← hq]; exact hb⟩]
      clear hp hq
      obtain rfl : a = p := ha
      obtain rfl : b = q := hb
      go_enter Tryd.func20, Tryd.ntmps20
      go_wp2
      go_region_held3 (fun w' => w'.cell? ⟨w.heap.size, 0, none⟩ = some (.int .i8 a) ∧ w'.cell? ⟨w.heap.size, 1, none⟩ = some (.int .i8 b))
        (first | go_keep | (simp [hc]; done))
        (first | (go_at_call 18; (with_reducible refine (normH.out _).mono ?_); rintro e w' ⟨rfl, hb⟩; obtain ⟨hc, hf⟩ := bcell hb))
      go_wp2
      go_ret
      exact ⟨rfl, by (repeat (first | exact Below.refl _ _ | refine Below.setCell ?_ (by simp) _ | refine Below.alloc ?_ (by first | (simp; done) | (simp; omega) | omega) _ | refine below_drewN ?_ _ | refine Below.drew ?_ | refine Below.trans ?_ (Below.mono hb (by simp))))⟩
    · rw [mVal_f (by rw [← hq]; exact fun h => hb h.2)]
      clear hp hq
      obtain rfl : a = p := ha
      have h2 : (b == q) = false := by simpa using hb
      clear hb
      go_enter Tryd.func20, Tryd.ntmps20
      go_wp2
      go_region_held3 (fun w' => w'.cell? ⟨w.heap.size, 0, none⟩ = some (.int .i8 a) ∧ w'.cell? ⟨w.heap.size, 1, none⟩ = some (.int .i8 b))
        (first | go_keep | (simp [hc]; done))
        (first | (go_at_call 18; (with_reducible refine (normH.out _).mono ?_); rintro e w' ⟨rfl, hb⟩; obtain ⟨hc, hf⟩ := bcell hb))
      go_wp2
      go_ret
      exact ⟨rfl, by (repeat (first | exact Below.refl _ _ | refine Below.setCell ?_ (by simp) _ | refine Below.alloc ?_ (by first | (simp; done) | (simp; omega) | omega) _ | refine below_drewN ?_ _ | refine Below.drew ?_ | refine Below.trans ?_ (Below.mono hb (by simp))))⟩
  · rw [mVal_f (by rw [← hp]; exact fun h => ha h.1)]
    clear hp hq
    have h2 : (a == p) = false := by simpa using ha
    clear ha
    go_enter Tryd.func20, Tryd.ntmps20
    go_wp2
    go_region_held3 (fun w' => w'.cell? ⟨w.heap.size, 0, none⟩ = some (.int .i8 a) ∧ w'.cell? ⟨w.heap.size, 1, none⟩ = some (.int .i8 b))
      (first | go_keep | (simp [hc]; done))
      (first | (go_at_call 18; (with_reducible refine (normH.out _).mono ?_); rintro e w' ⟨rfl, hb⟩; obtain ⟨hc, hf⟩ := bcell hb))
    go_wp2
    go_ret
    exact ⟨rfl, by (repeat (first | exact Below.refl _ _ | refine Below.setCell ?_ (by simp) _ | refine Below.alloc ?_ (by first | (simp; done) | (simp; omega) | omega) _ | refine below_drewN ?_ _ | refine Below.drew ?_ | refine Below.trans ?_ (Below.mono hb (by simp))))⟩

end Go.Proofs.YtgaihbenlfeeeaaDoor
