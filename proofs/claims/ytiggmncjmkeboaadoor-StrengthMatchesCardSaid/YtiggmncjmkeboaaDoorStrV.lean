/-
  The contract of Levels of the reference: the levels that result from combining two levels, as a slice of its own.
-/
import Derived.Test.YtiggmncjmkeboaaDoorStrR
import Derived.Test.YtiggmncjmkeboaaDoorStrK
import Derived.Laws.AppendOwn
import Derived.Laws.OwnMore
import Derived.OwnWalk
import Derived.Deep.AppendLies
namespace Go.Proofs.YtiggmncjmkeboaaDoor
open Go.RowKit
set_option linter.unusedSimpArgs false

def rng (p : Int) (k : Nat) : List Value := (List.range k).map fun j : Nat => Value.int .i8 (p + j)
theorem rng_len (p : Int) (k : Nat) : (rng p k).length = k := by simp [rng]
theorem rng_succ (p : Int) (k : Nat) : rng p k ++ [.int .i8 (p + k)] = rng p (k + 1) := by simp [rng, List.range_succ]
theorem rng_at (p : Int) (k i : Nat) (h : i < k) : (rng p k)[i]? = some (.int .i8 (p + i)) := by simp [rng, h]
/-- A slice of its own that holds the levels from p to q. -/
def Lv (p q : Int) (w : World) (e : Ending) (w' : World) : Prop := ∃ (g cap n : Nat), e = .returned (.slice (some ⟨g, 0, none⟩) n cap) ∧ (n : Int) = q - p + 1 ∧ Below w.heap.size w w' ∧ g < w'.heap.size ∧ w.heap.size ≤ g ∧ ∀ i : Nat, i < n → w'.cell? ⟨g, i, none⟩ = some (.int .i8 (p + i))
theorem A.info_i8 : (Tryd.prog.info? 26).map (fun i => (i.zero, i.size, i.bytes)) = some (some (.int .i8 0), 1, 1) := by kernel_rfl
theorem lv_one (w : World) (a : Int) (t : TypeId) : ∀ i : Nat, i < 1 → (w.alloc (.cells #[.int .i8 a] t)).cell? ⟨w.heap.size, i, none⟩ = some (.int .i8 (a + i)) := fun i hi => by
  obtain rfl : i = 0 := by omega
  rw [cell_new]; simp
theorem lv_end {w wr : World} {v : Value} {p q : Int} {k : Nat} (h : wr.ownsRow w.heap.size 26 1 v k (rng p k)) (hb : Below w.heap.size w wr) (hk : (k : Int) = q - p + 1) (h0 : 0 < k) : Lv p q w (.returned v) wr := by
  rcases h.2 with ⟨h1, h2⟩ | ⟨g, cap, cur, hv, hg, hgg, r⟩
  · have := rng_len p k
    rw [h2] at this
    simp at this
    omega
  · subst hv
    have hlt := h.lt g rfl
    refine ⟨g, cap, k, rfl, hk, hb, hlt.2, hlt.1, fun i hi => ?_⟩
    have := World.ownsRow.cellAt h i (by omega)
    rw [this, rng_at p k i hi]

set_option maxHeartbeats 2000000 in
theorem rlevels_one (a b : Int) (w : World) (h0 : -7 ≤ a) (h1 : a ≤ 7) (h2 : -7 ≤ b) (h3 : b ≤ 7) (h : a ≠ -b ∨ a = 0) :
    Calls Tryd.prog 32 #[.int .i8 a, .int .i8 b] w (Lv (cLo a b) (cHi a b) w) := by
  rcases h with h | h
  · have hd : (a == -b) = false := by simpa using h
    go_enter Tryd.func32, Tryd.ntmps32
    go_wp2
    all_goals
      go_ret
      first
        | (have e1 : cLo a b = a := by unfold cLo mag; (repeat' split) <;> omega
           have e2 : cHi a b = a := by unfold cHi mag; (repeat' split) <;> omega
           rw [e1, e2]
           exact ⟨w.heap.size, 1, 1, rfl, by omega, (Below.refl _ _).alloc (Nat.le_refl _) _, by simp, Nat.le_refl _, lv_one w a _⟩)
        | (have e1 : cLo a b = b := by unfold cLo mag; (repeat' split) <;> omega
           have e2 : cHi a b = b := by unfold cHi mag; (repeat' split) <;> omega
           rw [e1, e2]
           exact ⟨w.heap.size, 1, 1, rfl, by omega, (Below.refl _ _).alloc (Nat.le_refl _) _, by simp, Nat.le_refl _, lv_one w b _⟩)
  · subst h
    by_cases hb : b = 0
    · subst hb
      go_enter Tryd.func32, Tryd.ntmps32
      go_wp2
      go_ret
      exact ⟨w.heap.size, 1, 1, rfl, by decide, (Below.refl _ _).alloc (Nat.le_refl _) _, by simp, Nat.le_refl _, lv_one w 0 _⟩
    · have hd : ((0 : Int) == -b) = false := by simpa using (by omega : (0 : Int) ≠ -b)
      have e1 : cLo 0 b = b := by unfold cLo mag; (repeat' split) <;> omega
      have e2 : cHi 0 b = b := by unfold cHi mag; (repeat' split) <;> omega
      rw [e1, e2]
      clear e1 e2
      go_enter Tryd.func32, Tryd.ntmps32
      go_wp2
      all_goals
        first
          | (exfalso; omega)
          | (go_ret
             exact ⟨w.heap.size, 1, 1, rfl, by omega, (Below.refl _ _).alloc (Nat.le_refl _) _, by simp, Nat.le_refl _, lv_one w b _⟩)

set_option maxHeartbeats 2000000 in
theorem rlevels_pos (b : Int) (w : World) (h0 : 0 < b) (h1 : b ≤ 7) :
    Calls Tryd.prog 32 #[.int .i8 (-b), .int .i8 b] w (Lv (-b) (b) w) := by
  obtain ⟨i0, hi, hz0, hz1, hz2⟩ := info_parts A.info_i8
  have hd0 : (b == 0) = false := by simpa using (by omega : b ≠ 0)
  have hd1 : (-b != 0) = true := by simpa using (by omega : b ≠ 0)
  go_enter Tryd.func32, Tryd.ntmps32
  go_wp2
  go_loopw [5, 6] (fun v i wr => ∃ k : Nat, (-b) + k ≤ (b) + 1 ∧ i = .int .i8 ((-b) + k) ∧ wr.ownsRow w.heap.size 26 1 v k (rng (-b) k) ∧ Below w.heap.size w wr) (fun _ i _ => ((b) + 1 - intOf i).toNat)
  case atStart => exact ⟨0, by omega, by simp, World.ownsRow_nil _ _ _ _, Below.refl _ _⟩
  case round =>
    obtain ⟨k, hk, rfl, hown, hB⟩ := hrel
    have hs := hB.size
    by_cases hlt : (-b) + k ≤ (b)
    · go_wp2_with (at_builtin; refine wpList_append_own _ rfl _ _ 52 rfl w.heap.size 26 i0 (.int .i8 0) 1 1 Tryd.underlying52 hi hz0 hz1 hz2 rfl (by decide) _ _ _ rfl (hown.alloc _) ⟨wr.heap.size, 0, none⟩ 1 1 [.int .i8 ((-b) + k)] rfl rfl ?c1 ?c2 ?c3 ?c4 ?c5 ?_)
      case c1 => exact World.news_of_block (cs := #[.int .i8 ((-b) + k)]) (t := 26) (fr := (0, 0)) (heap_alloc_new wr _)
      case c2 => simp [Value.oneCell']
      case c3 => unfold maxLen; omega
      case c4 => omega
      case c5 => simp; omega
      intro v' w1 hown1 hgrow _
      rw [rng_succ] at hown1
      have hB1 := (hB.alloc hs _).grown hgrow (by simp; omega) (fun q hq => (hown.lt q hq).1)
      have hown2 := hide hown1
      clear hown1 hgrow hown
      go_wp2
      go_roundw
      case rel => exact ⟨k + 1, by omega, congrArg (Value.int .i8) (by omega), hown2.out, hB1⟩
      case measure => simp [intOf]; omega
    · go_wp2
      go_ret
      exact lv_end hown hB (by omega) (by omega)

set_option maxHeartbeats 2000000 in
theorem rlevels_neg (b : Int) (w : World) (h0 : b < 0) (h1 : -7 ≤ b) :
    Calls Tryd.prog 32 #[.int .i8 (-b), .int .i8 b] w (Lv (b) (-b) w) := by
  obtain ⟨i0, hi, hz0, hz1, hz2⟩ := info_parts A.info_i8
  have hd0 : (b == 0) = false := by simpa using (by omega : b ≠ 0)
  have hd1 : (-b != 0) = true := by simpa using (by omega : b ≠ 0)
  go_enter Tryd.func32, Tryd.ntmps32
  go_wp2
  go_loopw [5, 6] (fun v i wr => ∃ k : Nat, (b) + k ≤ (-b) + 1 ∧ i = .int .i8 ((b) + k) ∧ wr.ownsRow w.heap.size 26 1 v k (rng (b) k) ∧ Below w.heap.size w wr) (fun _ i _ => ((-b) + 1 - intOf i).toNat)
  case atStart => exact ⟨0, by omega, by simp, World.ownsRow_nil _ _ _ _, Below.refl _ _⟩
  case round =>
    obtain ⟨k, hk, rfl, hown, hB⟩ := hrel
    have hs := hB.size
    by_cases hlt : (b) + k ≤ (-b)
    · go_wp2_with (at_builtin; refine wpList_append_own _ rfl _ _ 52 rfl w.heap.size 26 i0 (.int .i8 0) 1 1 Tryd.underlying52 hi hz0 hz1 hz2 rfl (by decide) _ _ _ rfl (hown.alloc _) ⟨wr.heap.size, 0, none⟩ 1 1 [.int .i8 ((b) + k)] rfl rfl ?c1 ?c2 ?c3 ?c4 ?c5 ?_)
      case c1 => exact World.news_of_block (cs := #[.int .i8 ((b) + k)]) (t := 26) (fr := (0, 0)) (heap_alloc_new wr _)
      case c2 => simp [Value.oneCell']
      case c3 => unfold maxLen; omega
      case c4 => omega
      case c5 => simp; omega
      intro v' w1 hown1 hgrow _
      rw [rng_succ] at hown1
      have hB1 := (hB.alloc hs _).grown hgrow (by simp; omega) (fun q hq => (hown.lt q hq).1)
      have hown2 := hide hown1
      clear hown1 hgrow hown
      go_wp2
      go_roundw
      case rel => exact ⟨k + 1, by omega, congrArg (Value.int .i8) (by omega), hown2.out, hB1⟩
      case measure => simp [intOf]; omega
    · go_wp2
      go_ret
      exact lv_end hown hB (by omega) (by omega)

theorem rlevels_any (a b : Int) (w : World) (h0 : -7 ≤ a) (h1 : a ≤ 7) (h2 : -7 ≤ b) (h3 : b ≤ 7) :
    Calls Tryd.prog 32 #[.int .i8 a, .int .i8 b] w (Lv (cLo a b) (cHi a b) w) := by
  by_cases h : a ≠ -b ∨ a = 0
  · exact rlevels_one a b w h0 h1 h2 h3 h
  · obtain rfl : a = -b := by omega
    by_cases hb : 0 < b
    · have e1 : cLo (-b) b = -b := by unfold cLo mag; (repeat' split) <;> omega
      have e2 : cHi (-b) b = b := by unfold cHi mag; (repeat' split) <;> omega
      rw [e1, e2]; exact rlevels_pos b w hb h3
    · have e1 : cLo (-b) b = b := by unfold cLo mag; (repeat' split) <;> omega
      have e2 : cHi (-b) b = -b := by unfold cHi mag; (repeat' split) <;> omega
      rw [e1, e2]; exact rlevels_neg b w (by omega) h2

end Go.Proofs.YtiggmncjmkeboaaDoor
