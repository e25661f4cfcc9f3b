/-
  The contracts of package bv's plain functions: each answers as the mathematics says, and memory that was there is as it was.
-/
import Derived.Test.YtkjiaflmaniplaaProg
import Derived.Test.YtkjiaflmaniplaaBvN
import Derived.WalkKit
import Derived.WalkSpells
import Derived.WalkLawsBesides
import Derived.Deep.QuietTactic
import Derived.BigQuiet
import Derived.Lib.Hide
import Derived.Below
import Derived.Outline
import Derived.Deep.RegionHeld3
import Derived.OwnWalk
import Derived.Laws.Rows
import Derived.OneCell
namespace Go.Proofs.Ytkjiaflmaniplaa
open Go.RowKit

theorem hide {p : Prop} (h : p) : Hid p := h
/-- A slice that reads as a vector. -/
def Rd (w : World) (A : Option Addr) (l : List Bool) : Prop :=
  0 < l.length → ∃ ad, A = some ad ∧ ad.block < w.heap.size ∧ ∀ i, i < l.length → w.cell? (ad.add i) = some (.bool (bt l i))
/-- A row of the call's own: its first n cells hold bits. -/
def RowF (w : World) (g n : Nat) (F : Nat → Bool) : Prop := ∃ cs : Array Value, w.heap[g]? = some (.cells cs 4 (0, 0)) ∧ ∀ i, i < n → cs[i]? = some (.bool (F i))
/-- A vector in a row of the call's own. -/
def Own (B : Nat) (w : World) (A : Option Addr) (l : List Bool) : Prop :=
  0 < l.length → ∃ g, A = some ⟨g, 0, none⟩ ∧ B ≤ g ∧ RowF w g l.length (bt l)
section
variable {w w' : World} {g n : Nat} {F G : Nat → Bool}
theorem RowF.lt (h : RowF w g n F) : g < w.heap.size := by
  obtain ⟨cs, hg, _⟩ := h
  exact lt_of_block hg
theorem RowF.cell (h : RowF w g n F) {i : Nat} (hi : i < n) : w.cell? ⟨g, i, none⟩ = some (.bool (F i)) := by
  obtain ⟨cs, hg, hc⟩ := h
  rw [cell_of_row w g i _ _ _ hg]
  exact hc i hi
theorem RowF.free (h : RowF w g n F) (i : Nat) : w.frozen? ⟨g, i, none⟩ = false := by
  obtain ⟨cs, hg, hc⟩ := h
  exact frozen_of_row w g i _ _ hg
theorem RowF.congr (h : RowF w g n F) (k : ∀ i, i < n → F i = G i) : RowF w g n G := by
  obtain ⟨cs, hg, hc⟩ := h
  exact ⟨cs, hg, fun i hi => by rw [hc i hi, k i hi]⟩
theorem RowF.set_ (h : RowF w g n F) (i : Nat) (v : Bool) : RowF (w.setCell ⟨g, i, none⟩ (.bool v)) g n (fun j => if j = i then v else F j) := by
  obtain ⟨cs, hg, hc⟩ := h
  refine ⟨_, heap_setCell_same w g i cs _ _ hg, fun j hj => ?_⟩
  have hjs : j < cs.size := by
    rcases Nat.lt_or_ge j cs.size with h1 | h1
    · exact h1
    · have := hc j hj; rw [Array.getElem?_eq_none h1] at this; cases this
  by_cases e : j = i
  · subst e; simp [hjs]
  · rw [Array.getElem?_setIfInBounds_ne (by omega), hc j hj]; simp [e]
theorem RowF.far (h : RowF w g n F) {p : Addr} (hp : g ≠ p.block) (u : Value) : RowF (w.setCell p u) g n F := by
  obtain ⟨cs, hg, hc⟩ := h
  exact ⟨cs, by rw [heap_setCell_other w p g u hp]; exact hg, hc⟩
theorem RowF.alloc (h : RowF w g n F) (o : Obj) : RowF (w.alloc o) g n F := by
  have hlt := h.lt
  obtain ⟨cs, hg, hc⟩ := h
  exact ⟨cs, (Below.heap_alloc w o g hlt).trans hg, hc⟩
theorem RowF.drew (h : RowF w g n F) : RowF w.drew g n F := h
theorem RowF.drewN (h : RowF w g n F) (k : Nat) : RowF (w.drewN k) g n F := h
theorem RowF.below (h : RowF w g n F) {B : Nat} (hb : Below B w w') (hB : g < B) : RowF w' g n F := by
  obtain ⟨cs, hg, hc⟩ := h
  exact ⟨cs, by rw [hb.block g hB]; exact hg, hc⟩
theorem RowF.kept (h : RowF w g n F) (hb : Below w.heap.size w w') : RowF w' g n F := h.below hb h.lt
end
/-- What a call leaves that makes memory: its answer; what was there is as it was. -/
def Mk (v : Value) (w : World) (e : Ending) (w' : World) : Prop := e = .returned v ∧ Below w.heap.size w w'
/-- What a call leaves that answers a new vector. -/
def MkV (l : List Bool) (w : World) (e : Ending) (w' : World) : Prop :=
  ∃ A c, e = .returned (.slice A l.length c) ∧ l.length ≤ c ∧ c ≤ maxLen ∧ Own w.heap.size w' A l ∧ Below w.heap.size w w'
theorem below_drewN {B : Nat} {a w : World} (h : Below B a w) (n : Nat) : Below B a (w.drewN n) := ⟨h.os, h.tape, h.output, h.size, h.block⟩
theorem bcell {W w1 : World} (hb : Below W.heap.size W w1) : (∀ b o, b < W.heap.size → w1.cell? ⟨b, o, none⟩ = W.cell? ⟨b, o, none⟩) ∧ (∀ b o, b < W.heap.size → w1.frozen? ⟨b, o, none⟩ = W.frozen? ⟨b, o, none⟩) :=
  ⟨fun b o h => hb.cell (p := ⟨b, o, none⟩) h, fun b o h => hb.frozen (p := ⟨b, o, none⟩) h⟩
theorem ret_int {k : IntKind} {a b : Int} (h : a = b) : Ending.returned (.int k a) = .returned (.int k b) := by rw [h]
theorem ret_bool {a b : Bool} (h : a = b) : Ending.returned (.bool a) = .returned (.bool b) := by rw [h]
theorem block_of_add (a : Addr) (n : Nat) : (a.add n).block = a.block := by unfold Addr.add; split <;> rfl
theorem add_of_add (a : Addr) (i j : Nat) : (a.add i).add j = a.add (i + j) := by
  unfold Addr.add
  by_cases hi : i = 0 <;> by_cases hj : j = 0 <;> simp [hi, hj, Nat.add_assoc]
theorem Rd.below {w w' : World} {A : Option Addr} {l : List Bool} (h : Rd w A l) (hb : Below w.heap.size w w') : Rd w' A l := fun hn => by
  obtain ⟨ad, e, hlt, hc⟩ := h hn
  exact ⟨ad, e, Nat.lt_of_lt_of_le hlt hb.size, fun i hi => (hb.cell (p := ad.add i) (by rw [block_of_add]; exact hlt)).trans (hc i hi)⟩
section
variable {B B' : Nat} {w w' : World} {A : Option Addr} {l : List Bool}
theorem Own.lt (h : Own B w A l) (hn : 0 < l.length) : ∃ g, A = some ⟨g, 0, none⟩ ∧ B ≤ g ∧ g < w.heap.size := by
  obtain ⟨g, e, hB, hr⟩ := h hn
  exact ⟨g, e, hB, hr.lt⟩
theorem addr_add (g i : Nat) : ((⟨g, 0, none⟩ : Addr).add i) = ⟨g, i, none⟩ := by unfold Addr.add; split <;> simp_all
theorem Own.rd (h : Own B w A l) : Rd w A l := fun hn => by
  obtain ⟨g, e, hB, hr⟩ := h hn
  exact ⟨_, e, hr.lt, fun i hi => by rw [addr_add]; exact hr.cell hi⟩
theorem Own.kept (h : Own B w A l) (hb : Below w.heap.size w w') : Own B w' A l := fun hn => by
  obtain ⟨g, e, hB, hr⟩ := h hn
  exact ⟨g, e, hB, hr.kept hb⟩
theorem Own.base (h : Own B w A l) (hB : B' ≤ B) : Own B' w A l := fun hn => by
  obtain ⟨g, e, hB2, hr⟩ := h hn
  exact ⟨g, e, by omega, hr⟩
theorem Own.of_row {g : Nat} (h : RowF w g l.length (bt l)) (hB : B ≤ g) : Own B w (some ⟨g, 0, none⟩) l := fun _ => ⟨g, rfl, hB, h⟩
theorem Rd.lt (h : Rd w A l) (hn : 0 < l.length) : ∃ ad, A = some ad ∧ ad.block < w.heap.size := by
  obtain ⟨ad, e, hlt, _⟩ := h hn
  exact ⟨ad, e, hlt⟩
/-- Only memory from the base on has turned. -/
theorem Rd.keepB (h : Rd w A l) {b : Nat} (hb : Below b w w') (hB : w.heap.size ≤ b) : Rd w' A l := h.below (hb.mono hB)
end
theorem Rd.at_ {w : World} {A : Option Addr} {l : List Bool} (h : Rd w A l) {i : Nat} (hi : i < l.length) : ∃ ad, A = some ad ∧ ad.block < w.heap.size ∧ w.cell? (ad.add i) = some (.bool (bt l i)) := by
  obtain ⟨ad, e, hlt, hc⟩ := h (by omega)
  exact ⟨ad, e, hlt, hc i hi⟩

set_option maxHeartbeats 400000 in
theorem ext_any (A : Option Addr) (l : List Bool) (c : Nat) (i : Nat) (b : Bool) (w : World) (hl : l.length ≤ 4096) (hi : i ≤ 10000) (h : Rd w A l) :
    Calls Try.prog 56 #[.slice A l.length c, .int .i64 i, .bool b] w fun e w' => e = .returned (.bool (ex l b i)) ∧ w = w' := by
  by_cases hlt : i < l.length
  · obtain ⟨ad, rfl, hb, hc⟩ := h.at_ hlt
    clear h
    have e : ex l b i = bt l i := by unfold ex; rw [if_pos hlt]
    rw [e]
    clear e
    go_enter Try.func56, Try.ntmps56
    go_wp2
    go_ret
    exact ⟨rfl, rfl⟩
  · have e : ex l b i = b := by unfold ex; rw [if_neg hlt]
    rw [e]
    clear e h
    go_enter Try.func56, Try.ntmps56
    go_wp2
    go_ret
    exact ⟨rfl, rfl⟩

set_option maxHeartbeats 400000 in
theorem neg_any (A : Option Addr) (l : List Bool) (c : Nat) (w : World) (hl : l.length ≤ 4096) (h : Rd w A l) :
    Calls Try.prog 63 #[.slice A l.length c] w fun e w' => e = .returned (.bool (ng l)) ∧ w = w' := by
  by_cases hlt : 0 < l.length
  · obtain ⟨ad, rfl, hb, hc⟩ := h.at_ (i := l.length - 1) (by omega)
    clear h
    have e : ng l = bt l (l.length - 1) := by unfold ng; simp [hlt]
    rw [e]
    clear e
    obtain ⟨n, hn⟩ : ∃ n, l.length = n + 1 := ⟨l.length - 1, by omega⟩
    have hm : n ≤ 4096 := by omega
    rw [hn] at hc ⊢
    simp only [Nat.add_sub_cancel] at hc ⊢
    generalize bt l n = v at *
    clear hn hl hlt
    go_enter Try.func63, Try.ntmps63
    go_wp2
    go_ret
    exact ⟨rfl, rfl⟩
  · have e : ng l = false := by unfold ng; simp [hlt]
    have hz : l.length = 0 := by omega
    rw [e, hz]
    clear e h hl hlt hz
    go_enter Try.func63, Try.ntmps63
    go_wp2
    go_ret
    exact ⟨rfl, rfl⟩

set_option maxHeartbeats 400000 in
theorem dist_any (A : Option Addr) (n : Nat) (c : Nat) (k : Int) (w : World) (hl : n ≤ 4096) :
    Calls Try.prog 67 #[.slice A n c, .int .i64 k] w fun e w' => e = .returned (.int .i64 ((min k.toNat n : Nat) : Int)) ∧ w = w' := by
  go_enter Try.func67, Try.ntmps67
  go_wp2
  all_goals
    go_ret
    exact ⟨ret_int (by omega), rfl⟩

end Go.Proofs.Ytkjiaflmaniplaa
