/-
  Words for walks that keep several intervals in blocks of their own.
-/
import Derived.Test.YtiggmncjmkeboaaDoorStrL1
import Derived.Deep.DeepCutAuto
import Derived.Deep.RegionHeld3
namespace Go.Proofs.YtiggmncjmkeboaaDoor
open Go.RowKit

/-- Block N holds the interval from x to y. -/
def At2 (N : Nat) (x y : Int) (w : World) : Prop := N < w.heap.size ∧ w.cell? ⟨N, 0, none⟩ = some (.int .i8 x) ∧ w.cell? ⟨N, 1, none⟩ = some (.int .i8 y)
theorem At2.below {N : Nat} {x y : Int} {w w' : World} (h : At2 N x y w) (hb : Below w.heap.size w w') : At2 N x y w' :=
  ⟨Nat.lt_of_lt_of_le h.1 hb.size, (hb.cell (p := ⟨N, 0, none⟩) h.1).trans h.2.1, (hb.cell (p := ⟨N, 1, none⟩) h.1).trans h.2.2⟩
theorem At2.alloc {N : Nat} {x y : Int} {w : World} (h : At2 N x y w) (o : Obj) : At2 N x y (w.alloc o) := h.below ((Below.refl _ _).alloc (Nat.le_refl _) o)
theorem At2.drew {N : Nat} {x y : Int} {w : World} (h : At2 N x y w) : At2 N x y w.drew := h
theorem At2.drewN {N : Nat} {x y : Int} {w : World} (h : At2 N x y w) (n : Nat) : At2 N x y (w.drewN n) := h
theorem At2.set {N : Nat} {x y : Int} {w : World} (h : At2 N x y w) {p : Addr} (hp : N ≠ p.block) (v : Value) : At2 N x y (w.setCell p v) := by
  refine ⟨by simpa [World.setCell] using h.1, ?_, ?_⟩
  · rw [World.cell?_setCell_far _ _ _ _ (fun e => hp e.symm)]; exact h.2.1
  · rw [World.cell?_setCell_far _ _ _ _ (fun e => hp e.symm)]; exact h.2.2
theorem At2.of_heap {N : Nat} {x y : Int} {w : World} {t : TypeId} (h : w.heap[N]? = some (.cells #[.int .i8 x, .int .i8 y] t (0, 0))) : At2 N x y w :=
  ⟨(blk2 h).2.2.2.2, (blk2 h).1, (blk2 h).2.1⟩
theorem At2.new (w : World) (x y : Int) (t : TypeId) : At2 w.heap.size x y (w.alloc (.cells #[.int .i8 x, .int .i8 y] t)) := At2.of_heap (blk_new w _)

/-- What a drawn region holds: memory as it was, and two intervals. -/
theorem k2_call {B : Nat} {w w' w2 : World} {N M : Nat} {x y u v : Int} (h : Below B w w' ∧ At2 N x y w' ∧ At2 M u v w') (hb : Below w'.heap.size w' w2) (hB : B ≤ w'.heap.size) : Below B w w2 ∧ At2 N x y w2 ∧ At2 M u v w2 :=
  ⟨h.1.trans (hb.mono hB), h.2.1.below hb, h.2.2.below hb⟩
theorem k2_alloc {B : Nat} {w w' : World} {N M : Nat} {x y u v : Int} (h : Below B w w' ∧ At2 N x y w' ∧ At2 M u v w') (o : Obj) (hB : B ≤ w'.heap.size) : Below B w (w'.alloc o) ∧ At2 N x y (w'.alloc o) ∧ At2 M u v (w'.alloc o) :=
  ⟨h.1.alloc hB _, h.2.1.alloc _, h.2.2.alloc _⟩
theorem k2_set {B : Nat} {w w' : World} {N M : Nat} {x y u v : Int} (h : Below B w w' ∧ At2 N x y w' ∧ At2 M u v w') {p : Addr} (hp : N ≠ p.block) (hq : M ≠ p.block) (hB : B ≤ p.block) (z : Value) :
    Below B w (w'.setCell p z) ∧ At2 N x y (w'.setCell p z) ∧ At2 M u v (w'.setCell p z) :=
  ⟨h.1.setCell hB _, h.2.1.set hp _, h.2.2.set hq _⟩
theorem k2_bel {B : Nat} {w w' : World} {N M : Nat} {x y u v : Int} (h : Below B w w' ∧ At2 N x y w' ∧ At2 M u v w') : Below B w w' := h.1

/-- Two intervals laid into two new blocks. -/
def Two (w : World) (x y u v : Int) (p q : Value) (w' : World) : Prop := ∃ N M : Nat, p = .pointer (some ⟨N, 0, none⟩) ∧ q = .pointer (some ⟨M, 0, none⟩) ∧ Below w.heap.size w w' ∧ At2 N x y w' ∧ At2 M u v w'

/-- Combine at a slice laid right behind a draw. -/
theorem comb1_d (a b x y : Int) (w : World) (t : TypeId) (hx : cmbL [(a, b)] 0 = x) (hy : cmbH [(a, b)] 0 = y) :
    Calls Tryd.prog 15 #[.slice (some ⟨w.heap.size, 0, none⟩) 1 1] ((w.alloc (.cells #[.int .i8 a, .int .i8 b] t)).drew) (Mk (iv x y) ((w.alloc (.cells #[.int .i8 a, .int .i8 b] t)).drew)) := comb1_r a b x y w.drew t hx hy
theorem comb2_d (a b c d x y : Int) (w : World) (t : TypeId) (hx : cmbL [(a, b), (c, d)] 0 = x) (hy : cmbH [(a, b), (c, d)] 0 = y) :
    Calls Tryd.prog 15 #[.slice (some ⟨w.heap.size, 0, none⟩) 2 2] ((w.alloc (.cells #[.int .i8 a, .int .i8 b, .int .i8 c, .int .i8 d] t)).drew) (Mk (iv x y) ((w.alloc (.cells #[.int .i8 a, .int .i8 b, .int .i8 c, .int .i8 d] t)).drew)) := comb2_r a b c d x y w.drew t hx hy
theorem comb3_d (a b c d e f x y : Int) (w : World) (t : TypeId) (hx : cmbL [(a, b), (c, d), (e, f)] 0 = x) (hy : cmbH [(a, b), (c, d), (e, f)] 0 = y) :
    Calls Tryd.prog 15 #[.slice (some ⟨w.heap.size, 0, none⟩) 3 3] ((w.alloc (.cells #[.int .i8 a, .int .i8 b, .int .i8 c, .int .i8 d, .int .i8 e, .int .i8 f] t)).drew) (Mk (iv x y) ((w.alloc (.cells #[.int .i8 a, .int .i8 b, .int .i8 c, .int .i8 d, .int .i8 e, .int .i8 f] t)).drew)) := comb3_r a b c d e f x y w.drew t hx hy
theorem bool_dec {p q : Prop} [Decidable p] [Decidable q] (h : p ↔ q) : decide p = decide q := decide_eq_decide.2 h

end Go.Proofs.YtiggmncjmkeboaaDoor
