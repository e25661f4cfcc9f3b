/-
  Words for walks that keep several intervals in blocks of their own.
-/
import Derived.Test.YtgaihbenlfeeeaaDoorStrL1
import Derived.Deep.DeepCutAuto
import Derived.Deep.RegionHeld3
namespace Go.Proofs.YtgaihbenlfeeeaaDoor
open Go.RowKit

/-- Block N holds the interval from x to y. -/
def At2 (N : Nat) (x y : Int) (w : World) : Prop := N < w.heap.size ∧ w.cell? ⟨N, 0, none⟩ = some (.int .i8 x) ∧ w.cell? ⟨N, 1, none⟩ = some (.int .i8 y)
theorem At2.below {N : Nat} {x y : Int} {w w' : World} (h : At2 N x y w) (hb : Below w.heap.size w w') : At2 N x y w' :=
  ⟨Nat.lt_of_lt_of_le h.1 hb.size, (hb.cell (p := ⟨N, 0, none⟩) h.1).trans h.2.1, (hb.cell (p := ⟨N, 1, none⟩) h.1).trans h.2.2⟩
theorem At2.alloc {N : Nat} {x y : Int} {w : World} (h : At2 N x y w) (o : Obj) : At2 N x y (w.alloc o) := h.below ((Below.refl _ _).alloc (Nat.le_refl _) o)
theorem At2.drew {N : Nat} {x y : Int} {w : World} (h : At2 N x y w) : At2 N x y w.drew := h
theorem At2.drewN {N : Nat} {x y : Int} {w : World} (h : At2 N x y w) (n : Nat) : At2 N x y (w.drewN n) := h
theorem At2.set {N : Nat} {x y : Int} {w : World} (h : At2 N x y w) {p : Addr} (hp : N ≠ p.block) (v : Value) : At2 N x y (w.setCell p v) := by
  refine ⟨by simpa [World.setCell] using h.1, ?_, ?_⟩
  · rw [World.cell?_setCell_far _ _ _ _ (fun e => hp e.symm)]; exact h.2.1
  · rw [World.cell?_setCell_far _ _ _ _ (fun e => hp e.symm)]; exact h.2.2
theorem At2.of_heap {N : Nat} {x y : Int} {w : World} {t : TypeId} (h : w.heap[N]? = some (.cells #[.int .i8 x, .int .i8 y] t (0, 0))) : At2 N x y w :=
  ⟨(blk2 h).2.2.2.2, (blk2 h).1, (blk2 h).2.1⟩
theorem At2.new (w : World) (x y : Int) (t : TypeId) : At2 w.heap.size x y (w.alloc (.cells #[.int .i8 x, .int .i8 y] t)) := At2.of_heap (blk_new w _)

/-- What a drawn region holds: memory as it was, and two intervals. -/
theorem k2_call {B : Nat} {w w' w2 : World} {N M : Nat} {x y u v : Int} (h : Below B w w' ∧ At2 N x y w' ∧ At2 M u v w') (hb : Below w'.heap.size w' w2) (hB : B ≤ w'.heap.size) : Below B w w2 ∧ At2 N x y w2 ∧ At2 M u v w2 :=
  ⟨h.1.trans (hb.mono hB), h.2.1.below hb, h.2.2.below hb⟩
theorem k2_alloc {B : Nat} {w w' : World} {N M : Nat} {x y u v : Int} (h : Below B w w' ∧ At2 N x y w' ∧ At2 M u v w') (o : Obj) (hB : B ≤ w'.heap.size) : Below B w (w'.alloc o) ∧ At2 N x y (w'.alloc o) ∧ At2 M u v (w'.alloc o) :=
  ⟨h.1.alloc hB _, h.2.1.alloc _, h.2.2.alloc _⟩
theorem k2_set {B : Nat} {w w' : World} {N M : Nat} {x y u v : Int} (h : Below B w w' ∧ At2 N x y w' ∧ At2 M u v w') {p : Addr} (hp : N ≠ p.block) (hq : M ≠ p.block) (hB : B ≤ p.block) (z : Value) :
    Below B w (w'.setCell p z) ∧ At2 N x y (w'.setCell p z) ∧ At2 M u v (w'.setCell p z) :=
  ⟨h.1.setCell hB _, h.2.1.set hp _, h.2.2.set hq _⟩
theorem k2_bel {B : Nat} {w w' : World} {N M : Nat} {x y u v : Int} (h : Below B w w' ∧ At2 N x y w' ∧ At2 M u v w') : Below B w w' := h.1

/-- Two intervals laid into two new blocks. -/
def Two (w : World) (x y u v : Int) (p q : Value) (w' : World) : Prop := ∃ N M : Nat, p = .pointer (some ⟨N, 0, none⟩) ∧ q = .pointer (some ⟨M, 0, none⟩) ∧ Below w.heap.size w w' ∧ At2 N x y w' ∧ At2 M u v w'

/-- Combine at a slice laid right behind a draw. -/
theorem comb1_d (a b x y : Int) (w : World) (t : TypeId) (hx : cmbL [(a, b)] 0 = x) (hy : cmbH [(a, b)] 0 = y) :
    Calls Tryd.prog 15 #[.slice (some ⟨w.heap.size, 0, none⟩) 1 1] ((w.alloc (.cells #[.int .i8 a, .int .i8 b] t)).drew) (Mk (iv x y) ((w.alloc (.cells #[.int .i8 a, .int .i8 b] t)).drew)) := comb1_r a b x y w.drew t hx hy
theorem comb2_d (a b c d x y : Int) (w : World) (t : TypeId) (hx : cmbL [(a, b), (c, d)] 0 = x) (hy : cmbH [(a, b), (c, d)] 0 = y) :
    Calls Tryd.prog 15 #[.slice (some ⟨w.heap.size, 0, none⟩) 2 2] ((w.alloc (.cells #[.int .i8 a, .int .i8 b, .int .i8 c, .int .i8 d] t)).drew) (Mk (iv x y) ((w.alloc (.cells #[.int .i8 a, .int .i8 b, .int .i8 c, .int .i8 d] t)).drew)) := comb2_r a b c d x y w.drew t hx hy
theorem comb3_d (a b c d e f x y : Int) (w : World) (t : TypeId) (hx : cmbL [(a, b), (c, d), (e, f)] 0 = x) (hy : cmbH [(a, b), (c, d), (e, f)] 0 = y) :
    Calls Tryd.prog 15 #[.slice (some ⟨w.heap.size, 0, none⟩) 3 3] ((w.alloc (.cells #[.int .i8 a, .int .i8 b, .int .i8 c, .int .i8 d, .int .i8 e, .int .i8 f] t)).drew) (Mk (iv x y) ((w.alloc (.cells #[.int .i8 a, .int .i8 b, .int .i8 c, .int .i8 d, .int .i8 e, .int .i8 f] t)).drew)) := comb3_r a b c d e f x y w.drew t hx hy
theorem bool_dec {p q : Prop} [Decidable p] [Decidable q] (h : p ↔ q) : decide p = decide q := decide_eq_decide.2 h

/-- Two slice literals laid before the first is used. -/
abbrev two2 (w : World) (a b c d e f g h : Int) (t : TypeId) : World := ((w.alloc (.cells #[.int .i8 a, .int .i8 b, .int .i8 c, .int .i8 d] t)).alloc (.cells #[.int .i8 e, .int .i8 f, .int .i8 g, .int .i8 h] t)).drew
theorem ivs_p (w : World) (a b c d e f g h : Int) (t : TypeId) : Ivs (two2 w a b c d e f g h t) w.heap.size 0 [(a, b), (c, d)] :=
  (ivs_new2 w a b c d t).below ((Below.refl _ _).alloc (Nat.le_refl _) _).drew
theorem ivs_q (w : World) (a b c d e f g h : Int) (t : TypeId) : Ivs (two2 w a b c d e f g h t) (w.heap.size + 1) 0 [(e, f), (g, h)] := by
  have h := ivs_new2 (w.alloc (.cells #[.int .i8 a, .int .i8 b, .int .i8 c, .int .i8 d] t)) e f g h t
  rw [show (w.alloc (.cells #[.int .i8 a, .int .i8 b, .int .i8 c, .int .i8 d] t)).heap.size = w.heap.size + 1 by simp] at h
  exact h
theorem comb2_p (a b c d e f g h x y : Int) (w : World) (t : TypeId) (hx : cmbL [(a, b), (c, d)] 0 = x) (hy : cmbH [(a, b), (c, d)] 0 = y) :
    Calls Tryd.prog 15 #[.slice (some ⟨w.heap.size, 0, none⟩) 2 2] (two2 w a b c d e f g h t) (Mk (iv x y) (two2 w a b c d e f g h t)) := by
  have k := combine_any [(a, b), (c, d)] w.heap.size 0 2 _ (by simp) (ivs_p w a b c d e f g h t)
  rw [hx, hy] at k; exact k
theorem comb2_q (a b c d e f g h x y : Int) (w : World) (t : TypeId) (hx : cmbL [(e, f), (g, h)] 0 = x) (hy : cmbH [(e, f), (g, h)] 0 = y) :
    Calls Tryd.prog 15 #[.slice (some ⟨w.heap.size + 1, 0, none⟩) 2 2] (two2 w a b c d e f g h t) (Mk (iv x y) (two2 w a b c d e f g h t)) := by
  have k := combine_any [(e, f), (g, h)] (w.heap.size + 1) 0 2 _ (by simp) (ivs_q w a b c d e f g h t)
  rw [hx, hy] at k; exact k
theorem comb2_pl (a b c d e f g h x y : Int) (w wz : World) (t : TypeId) (hb : Below (two2 w a b c d e f g h t).heap.size (two2 w a b c d e f g h t) wz) (hx : cmbL [(a, b), (c, d)] 0 = x) (hy : cmbH [(a, b), (c, d)] 0 = y) :
    Calls Tryd.prog 15 #[.slice (some ⟨w.heap.size, 0, none⟩) 2 2] wz (Mk (iv x y) wz) := by
  have k := combine_any [(a, b), (c, d)] w.heap.size 0 2 _ (by simp) ((ivs_p w a b c d e f g h t).below hb)
  rw [hx, hy] at k; exact k
theorem comb2_ql (a b c d e f g h x y : Int) (w wz : World) (t : TypeId) (hb : Below (two2 w a b c d e f g h t).heap.size (two2 w a b c d e f g h t) wz) (hx : cmbL [(e, f), (g, h)] 0 = x) (hy : cmbH [(e, f), (g, h)] 0 = y) :
    Calls Tryd.prog 15 #[.slice (some ⟨w.heap.size + 1, 0, none⟩) 2 2] wz (Mk (iv x y) wz) := by
  have k := combine_any [(e, f), (g, h)] (w.heap.size + 1) 0 2 _ (by simp) ((ivs_q w a b c d e f g h t).below hb)
  rw [hx, hy] at k; exact k

/-- What a drawn region holds: memory as it was, and four intervals. -/
theorem k4_call {B : Nat} {w w' w2 : World} {N M K L : Nat} {x y u v p q r s : Int} (h : Below B w w' ∧ At2 N x y w' ∧ At2 M u v w' ∧ At2 K p q w' ∧ At2 L r s w') (hb : Below w'.heap.size w' w2) (hB : B ≤ w'.heap.size) :
    Below B w w2 ∧ At2 N x y w2 ∧ At2 M u v w2 ∧ At2 K p q w2 ∧ At2 L r s w2 := ⟨h.1.trans (hb.mono hB), h.2.1.below hb, h.2.2.1.below hb, h.2.2.2.1.below hb, h.2.2.2.2.below hb⟩
theorem k4_alloc {B : Nat} {w w' : World} {N M K L : Nat} {x y u v p q r s : Int} (h : Below B w w' ∧ At2 N x y w' ∧ At2 M u v w' ∧ At2 K p q w' ∧ At2 L r s w') (o : Obj) (hB : B ≤ w'.heap.size) :
    Below B w (w'.alloc o) ∧ At2 N x y (w'.alloc o) ∧ At2 M u v (w'.alloc o) ∧ At2 K p q (w'.alloc o) ∧ At2 L r s (w'.alloc o) := k4_call h ((Below.refl _ _).alloc (Nat.le_refl _) _) hB
theorem k4_drew {B : Nat} {w w' : World} {N M K L : Nat} {x y u v p q r s : Int} (h : Below B w w' ∧ At2 N x y w' ∧ At2 M u v w' ∧ At2 K p q w' ∧ At2 L r s w') : Below B w w'.drew ∧ At2 N x y w'.drew ∧ At2 M u v w'.drew ∧ At2 K p q w'.drew ∧ At2 L r s w'.drew := ⟨h.1.drew, h.2⟩
theorem k4_bel {B : Nat} {w w' : World} {N M K L : Nat} {x y u v p q r s : Int} (h : Below B w w' ∧ At2 N x y w' ∧ At2 M u v w' ∧ At2 K p q w' ∧ At2 L r s w') : Below B w w' := h.1

end Go.Proofs.YtgaihbenlfeeeaaDoor
