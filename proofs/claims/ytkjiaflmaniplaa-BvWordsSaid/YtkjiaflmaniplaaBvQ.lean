/-
  Small lemmas of the statements that compare with the reference: blocks of slices, what is spoiled.
-/
import Derived.Test.YtkjiaflmaniplaaBvZ
import Derived.Test.YtkjiaflmaniplaaBvP2
namespace Go.Proofs.Ytkjiaflmaniplaa
open Go.RowKit
set_option linter.unusedSimpArgs false
set_option linter.unusedVariables false

theorem sls1 (w : World) (A : Option Addr) (a ca : Nat) : Sls (w.alloc (.cells #[.slice A a ca] 22)) w.heap.size [(A, a, ca)] := fun i hi => by
  rw [cell_of_row _ _ _ _ _ _ (heap_alloc_new w _)]
  match i, hi with
  | 0, _ => rfl
theorem sls2 (w : World) (A B : Option Addr) (a b ca cb : Nat) : Sls (w.alloc (.cells #[.slice A a ca, .slice B b cb] 22)) w.heap.size [(A, a, ca), (B, b, cb)] := fun i hi => by
  rw [cell_of_row _ _ _ _ _ _ (heap_alloc_new w _)]
  match i, hi with
  | 0, _ => rfl
  | 1, _ => rfl
theorem sls4 (w : World) (A B C D : Option Addr) (a b c d ca cb cc cd : Nat) : Sls (w.alloc (.cells #[.slice A a ca, .slice B b cb, .slice C c cc, .slice D d cd] 22)) w.heap.size [(A, a, ca), (B, b, cb), (C, c, cc), (D, d, cd)] := fun i hi => by
  rw [cell_of_row _ _ _ _ _ _ (heap_alloc_new w _)]
  match i, hi with
  | 0, _ => rfl
  | 1, _ => rfl
  | 2, _ => rfl
  | 3, _ => rfl
theorem bls_of_own {B : Nat} {w : World} {A : Option Addr} {l : List Bool} (h : Own B w A l) (o : Obj) (c : Nat) : Bls B w.heap.size (w.alloc o) (A, l.length, c) := fun hn => by
  obtain ⟨g, e, hB, hr⟩ := h hn
  exact ⟨g, bt l, e, hB, by have := hr.lt; omega, hr.alloc o⟩
theorem spr4 {S : Nat} {w : World} {A B C D : Option Addr} {a b c d : List Bool} (ca cb cc cd : Nat) (ha : Own S w A a) (hb : Own S w B b) (hc : Own S w C c) (hd : Own S w D d) :
    SpR S w.heap.size [(A, a.length, ca), (B, b.length, cb), (C, c.length, cc), (D, d.length, cd)] (w.alloc (.cells #[.slice A a.length ca, .slice B b.length cb, .slice C c.length cc, .slice D d.length cd] 22)) (w.alloc (.cells #[.slice A a.length ca, .slice B b.length cb, .slice C c.length cc, .slice D d.length cd] 22)) where
  sls := sls4 w A B C D _ _ _ _ _ _ _ _
  bls := fun i hi => by
    match i, hi with
    | 0, _ => exact bls_of_own ha _ _
    | 1, _ => exact bls_of_own hb _ _
    | 2, _ => exact bls_of_own hc _ _
    | 3, _ => exact bls_of_own hd _ _
  bel := Below.refl _ _
theorem len4 {A B C D : Option Addr} {a b c d ca cb cc cd : Nat} (ha : a ≤ 4096) (hb : b ≤ 4096) (hc : c ≤ 4096) (hd : d ≤ 4096) : ∀ i (h : i < [(A, a, ca), (B, b, cb), (C, c, cc), (D, d, cd)].length), ([(A, a, ca), (B, b, cb), (C, c, cc), (D, d, cd)][i]).2.1 ≤ 4096 := fun i hi => by
  match i, hi with
  | 0, _ => exact ha
  | 1, _ => exact hb
  | 2, _ => exact hc
  | 3, _ => exact hd
theorem long2 {A B : Option Addr} {a b ca cb : Nat} (h : ¬ (a ≤ 140 ∧ b ≤ 140)) : ∃ i, ∃ h : i < [(A, a, ca), (B, b, cb)].length, 140 < ([(A, a, ca), (B, b, cb)][i]).2.1 := by
  by_cases h1 : 140 < a
  · exact ⟨0, by simp, h1⟩
  · exact ⟨1, by simp, show 140 < b by omega⟩
/-- What the loop of a comparing statement keeps. -/
structure MR (w : World) (A B X Y : Option Addr) (a b x y : List Bool) (wr : World) : Prop where
  ra : Rd wr A a
  rb : Rd wr B b
  rx : Rd wr X x
  ry : Rd wr Y y
  bel : Below w.heap.size w wr
theorem MR.next {w wr w' : World} {A B X Y : Option Addr} {a b x y : List Bool} (h : MR w A B X Y a b x y wr) (hb : Below wr.heap.size wr w') : MR w A B X Y a b x y w' :=
  ⟨h.ra.below hb, h.rb.below hb, h.rx.below hb, h.ry.below hb, h.bel.trans (hb.mono h.bel.size)⟩
end Go.Proofs.Ytkjiaflmaniplaa
