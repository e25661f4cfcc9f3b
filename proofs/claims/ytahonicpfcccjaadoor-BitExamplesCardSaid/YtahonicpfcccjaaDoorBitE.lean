/-
  The walk of BitExamples.
-/
import Derived.Test.YtahonicpfcccjaaDoorBitL
import Derived.Outline
import Derived.Great.BuildSlice
namespace Go.Proofs.YtahonicpfcccjaaDoor
open Go.RowKit

/-- What the examples ask of a table's row i, k: And, Or, Xor. -/
def exW (i k : Nat) : Int × Int × Int := (mAnd i k, mOr i k, mXor i k)

/-- The world inside the loops: the tables read as before, the block of the wanted answers holds them, and what was there is unchanged. -/
structure ExW (w wr : World) : Prop where
  tb : Tab1 1 mBuf wr
  ta : Tab2 2 mAnd wr
  to : Tab2 3 mOr wr
  tx : Tab2 4 mXor wr
  tg : Tab2 5 mAgree wr
  tn : Tab1 0 mNot wr
  c0 : ∀ i k : Nat, i < 4 → k < 4 → wr.cell? ⟨w.heap.size, i * 12 + k * 3, none⟩ = some (.int .u8 (mAnd i k))
  c1 : ∀ i k : Nat, i < 4 → k < 4 → wr.cell? ⟨w.heap.size, i * 12 + k * 3 + 1, none⟩ = some (.int .u8 (mOr i k))
  c2 : ∀ i k : Nat, i < 4 → k < 4 → wr.cell? ⟨w.heap.size, i * 12 + k * 3 + 2, none⟩ = some (.int .u8 (mXor i k))
  gr : Grown w wr

theorem ExW.draw {w wr : World} (h : ExW w wr) (n : Nat) : ExW w (wr.drewN n) := ⟨h.tb, h.ta, h.to, h.tx, h.tg, h.tn, h.c0, h.c1, h.c2, h.gr⟩

def wantCells : Array Value := #[.int .u8 0, .int .u8 0, .int .u8 0, .int .u8 0, .int .u8 1, .int .u8 1, .int .u8 0, .int .u8 2, .int .u8 2, .int .u8 0, .int .u8 2, .int .u8 2,
  .int .u8 0, .int .u8 1, .int .u8 1, .int .u8 1, .int .u8 1, .int .u8 0, .int .u8 2, .int .u8 1, .int .u8 2, .int .u8 2, .int .u8 1, .int .u8 2,
  .int .u8 0, .int .u8 2, .int .u8 2, .int .u8 2, .int .u8 1, .int .u8 2, .int .u8 2, .int .u8 2, .int .u8 2, .int .u8 2, .int .u8 2, .int .u8 2,
  .int .u8 0, .int .u8 2, .int .u8 2, .int .u8 2, .int .u8 1, .int .u8 2, .int .u8 2, .int .u8 2, .int .u8 2, .int .u8 2, .int .u8 2, .int .u8 2]

theorem Grown.setRow' {W w' : World} (h : Grown W w') {g : Nat} (hg : W.heap.size ≤ g) (cs : Array Value) : Grown W (w'.setRow g cs) := by
  obtain ⟨⟨h1, h2, h3⟩, hf, hs⟩ := h
  refine ⟨⟨h1, h2, fun i hi => ?_⟩, fun x => ?_, by simpa using hs⟩
  · rw [setRow_other _ _ _ _ (by omega)]
    exact h3 i hi
  · rw [← hf x]
    unfold World.frozen?
    by_cases hx : x.block = g
    · rw [hx]
      cases ho : w'.heap[g]? with
      | none => simp [World.setRow, Array.getElem?_modify, ho]
      | some o => cases o <;> simp [World.setRow, Array.getElem?_modify, ho]
    · rw [setRow_other _ _ _ _ hx]

theorem start_heap (w : World) (n : Nat) (zs : Array Value) (t : TypeId) :
    (((w.drewN n).alloc (.cells zs t)).setRow w.heap.size wantCells).heap[w.heap.size]? = some (.cells wantCells t (0, 0)) :=
  setRow_heap _ _ _ _ _ _ (heap_alloc_new (w.drewN n) (.cells zs t))

theorem start_cell (w : World) (n : Nat) (zs : Array Value) (t : TypeId) (j : Nat) :
    (((w.drewN n).alloc (.cells zs t)).setRow w.heap.size wantCells).cell? ⟨w.heap.size, j, none⟩ = wantCells[j]? :=
  cell_of_row _ _ _ _ _ _ (start_heap w n zs t)

theorem start_old (w : World) (n : Nat) (zs : Array Value) (t : TypeId) {b o : Nat} {v : Value} (h : w.cell? ⟨b, o, none⟩ = some v) :
    (((w.drewN n).alloc (.cells zs t)).setRow w.heap.size wantCells).cell? ⟨b, o, none⟩ = some v := by
  have hb : b < w.heap.size := block_lt_of_cell h
  rw [cell_setRow_other _ _ _ _ (by simp; omega), World.cell?_alloc_past _ _ _ (by simpa using hb)]
  exact h

theorem start_exw (w : World) (n : Nat) (zs : Array Value) (t : TypeId) (tb : Tab1 1 mBuf w) (ta : Tab2 2 mAnd w) (to : Tab2 3 mOr w) (tx : Tab2 4 mXor w) (tg : Tab2 5 mAgree w) (tn : Tab1 0 mNot w) :
    ExW w (((w.drewN n).alloc (.cells zs t)).setRow w.heap.size wantCells) where
  tb := fun a h => start_old w n zs t (tb a h)
  ta := fun a b h k => start_old w n zs t (ta a b h k)
  to := fun a b h k => start_old w n zs t (to a b h k)
  tx := fun a b h k => start_old w n zs t (tx a b h k)
  tg := fun a b h k => start_old w n zs t (tg a b h k)
  tn := fun a h => start_old w n zs t (tn a h)
  c0 := fun i k hi hk => by
    rw [start_cell]
    match i, k with
    | 0, 0 | 0, 1 | 0, 2 | 0, 3 | 1, 0 | 1, 1 | 1, 2 | 1, 3 | 2, 0 | 2, 1 | 2, 2 | 2, 3 | 3, 0 | 3, 1 | 3, 2 | 3, 3 => rfl
    | i + 4, _ => omega
    | _, k + 4 => omega
  c1 := fun i k hi hk => by
    rw [start_cell]
    match i, k with
    | 0, 0 | 0, 1 | 0, 2 | 0, 3 | 1, 0 | 1, 1 | 1, 2 | 1, 3 | 2, 0 | 2, 1 | 2, 2 | 2, 3 | 3, 0 | 3, 1 | 3, 2 | 3, 3 => rfl
    | i + 4, _ => omega
    | _, k + 4 => omega
  c2 := fun i k hi hk => by
    rw [start_cell]
    match i, k with
    | 0, 0 | 0, 1 | 0, 2 | 0, 3 | 1, 0 | 1, 1 | 1, 2 | 1, 3 | 2, 0 | 2, 1 | 2, 2 | 2, 3 | 3, 0 | 3, 1 | 3, 2 | 3, 3 => rfl
    | i + 4, _ => omega
    | _, k + 4 => omega
  gr := Grown.setRow' ((show Grown w (w.drewN n) from Grown.refl w).alloc _ _) (Nat.le_refl _) _

set_option maxRecDepth 100000 in
set_option maxHeartbeats 1000000 in
theorem BitExamples_walk (w : World) (tb : Tab1 1 mBuf w) (ta : Tab2 2 mAnd w) (to : Tab2 3 mOr w) (tx : Tab2 4 mXor w) (tg : Tab2 5 mAgree w) (tn : Tab1 0 mNot w) :
    Calls Tryd.prog 5 #[] w (fun e w' => e = .returned (.bool true) ∧ Grown w w') := by
  go_enter Tryd.func5, Tryd.ntmps5
  go_wp2_with (first
    | (go_at_call 34; (with_reducible refine (awake_any _ (by first | assumption | exact Tab2.draw (by assumption) _ | exact Tab1.draw (by assumption) _) (by first | assumption | exact Tab2.draw (by assumption) _ | exact Tab1.draw (by assumption) _) (by first | assumption | exact Tab2.draw (by assumption) _ | exact Tab1.draw (by assumption) _) (by first | assumption | exact Tab2.draw (by assumption) _ | exact Tab1.draw (by assumption) _) (by first | assumption | exact Tab2.draw (by assumption) _ | exact Tab1.draw (by assumption) _)).mono ?_); rintro e w' ⟨rfl, n, rfl⟩)
    | (refine wpList_store_row rfl 37 (.tmp 1) (.tmp 40) rfl w.heap.size wantCells rfl rfl 37 (Array.replicate 48 (Value.int .u8 0)) ?hg ?hi ?hold ?h1 ?_))
  case hg => exact heap_alloc_new (w.drewN n) _
  case hi => kernel_rfl
  case hold => rfl
  case h1 => kernel_rfl
  have hs := start_exw w n (Array.replicate 48 (Value.int .u8 0)) 37 tb ta to tx tg tn
  have Hs := Lib.hid hs
  clear hs tb ta to tx tg tn
  go_loopw [2] (fun i wr => ∃ x : Nat, x ≤ 4 ∧ i = .int .i64 x ∧ ExW w wr) (fun i _ => 4 - (intOf i).toNat)
  case atStart => exact ⟨0, by omega, rfl, Hs.out⟩
  case round =>
    obtain ⟨x, hx, rfl, E⟩ := hrel
    by_cases hlt : x < 4
    · go_wp2
      go_loopw [3] (fun i wr => ∃ y : Nat, y ≤ 4 ∧ i = .int .i64 y ∧ ExW w wr) (fun i _ => 4 - (intOf i).toNat)
      case atStart => exact ⟨0, by omega, rfl, E⟩
      case round =>
        clear E
        obtain ⟨y, hy, rfl, E⟩ := hrel
        by_cases hly : y < 4
        · have c0 := E.c0 x y hlt hly
          have c1 := E.c1 x y hlt hly
          have c2 := E.c2 x y hlt hly
          have ta := E.ta
          have to := E.to
          have tx := E.tx
          have f0 : (mAnd (x : Int) y != mAnd (x : Int) y) = false := bne_t rfl
          have f1 : (mOr (x : Int) y != mOr (x : Int) y) = false := bne_t rfl
          have f2 : (mXor (x : Int) y != mXor (x : Int) y) = false := bne_t rfl
          go_wp2
          go_quiet (first
            | (go_at_call 20; exact Calls.quiet_of (and_any _ _ _ (by omega) (by omega) (ta.draw _)))
            | (go_at_call 22; exact Calls.quiet_of (or_any _ _ _ (by omega) (by omega) (to.draw _)))
            | (go_at_call 24; exact Calls.quiet_of (xor_any _ _ _ (by omega) (by omega) (tx.draw _))))
          go_wp2
          go_roundw
          case rel => exact ⟨y + 1, by omega, by go_num, E.draw _⟩
          case measure => simp [intOf]; omega
        · go_wp2
          go_roundw
          case rel => exact ⟨x + 1, by omega, by go_num, E⟩
          case measure => simp [intOf]; omega
    · have tb := E.tb
      have ta := E.ta
      have to := E.to
      have tn := E.tn
      have e0 : mAnd 9 1 = 2 := rfl
      have e1 : mOr 9 1 = 1 := rfl
      have e2 : mSame 9 2 = true := rfl
      have e3 : mSame 2 3 = false := rfl
      have e4 : mLeq 9 0 = true := rfl
      have e5 : mLeq 0 2 = false := rfl
      have e6 : mChar 9 = 120 := rfl
      have e7 : mChar 3 = 122 := rfl
      have e8 : mBuf 3 = 2 := rfl
      have e9 : mNot 3 = 2 := rfl
      have e10 : mParse 50 = 0 := rfl
      have e11 : mParsed 50 = false := rfl
      have e12 : mParse 88 = 2 := rfl
      have e13 : mParsed 88 = true := rfl
      have e14 : mValid 4 = false := rfl
      have e15 : mKnown 255 = false := rfl
      go_wp2_with (first
        | (go_at_call 35; (with_reducible refine (parse_any _ _).mono ?_); rintro e w' ⟨rfl, rfl⟩)
        | (go_at_call 11; (with_reducible refine (valid_any _ _).mono ?_); rintro e w' ⟨rfl, rfl⟩)
        | (go_at_call 12; (with_reducible refine (known_any _ _).mono ?_); rintro e w' ⟨rfl, rfl⟩)
        | (go_at_call 20; (with_reducible refine (and_any _ _ _ (by decide) (by decide) (by first | assumption | exact Tab2.draw (by assumption) _ | exact Tab1.draw (by assumption) _)).mono ?_); rintro e w' ⟨rfl, n, rfl⟩)
        | (go_at_call 22; (with_reducible refine (or_any _ _ _ (by decide) (by decide) (by first | assumption | exact Tab2.draw (by assumption) _ | exact Tab1.draw (by assumption) _)).mono ?_); rintro e w' ⟨rfl, n, rfl⟩)
        | (go_at_call 28; (with_reducible refine (same_any _ _ _).mono ?_); rintro e w' ⟨rfl, rfl⟩)
        | (go_at_call 30; (with_reducible refine (leq_any _ _ _).mono ?_); rintro e w' ⟨rfl, rfl⟩)
        | (go_at_call 18; (with_reducible refine (char_any _ _ (by decide)).mono ?_); rintro e w' ⟨rfl, rfl⟩)
        | (go_at_call 16; (with_reducible refine (buf_any _ _ (by decide) (by first | assumption | exact Tab2.draw (by assumption) _ | exact Tab1.draw (by assumption) _)).mono ?_); rintro e w' ⟨rfl, n, rfl⟩)
        | (go_at_call 14; (with_reducible refine (not_any _ _ (by decide) (by first | assumption | exact Tab2.draw (by assumption) _ | exact Tab1.draw (by assumption) _)).mono ?_); rintro e w' ⟨rfl, n, rfl⟩))
      go_ret
      exact ⟨rfl, E.gr⟩

end Go.Proofs.YtahonicpfcccjaaDoor
