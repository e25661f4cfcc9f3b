/-
  The law on a drawn region with a forced tail, its closed conditions bundled; Combine at two slices laid one behind the other.
-/
import Derived.Test.YtgaihbenlfeeeaaDoorStrK
namespace Go.Proofs.YtgaihbenlfeeeaaDoor
open Go Go.RowKit

section
variable {P : Program} {ops : Array Oper} {Q : Exit → Act → World → Prop} {md : Region.Mode} {S : World → Prop} {n : Nat}
structure TailOk (md : Region.Mode) (ops : Array Oper) (n : Nat) : Prop where
  sel : Region.noSelect ops = true
  sink : Region.sinkB md ops n = true
  chain : Region.chainB md ops n = true
  lt : n < ops.size
theorem anyT_step {i : Nat} {oi : Oper} {v : Value} {fuel : Nat} {listed : Array Bool} {a : Act} {w : World} (hok : TailOk md ops n) (hi : ops[i]? = some oi) (hin : i < n)
    (hf : Region.free md ops listed i = true) (hr : (Region.ready md ops listed).contains i = true) (inv : HeadInv md ops n listed)
    (hQ : ∀ c a w, Q (.panic c) (a.put oi.dst v) w → Q (.panic c) a w) (hy : YieldsIf P ops S oi v a) (hS : S w)
    (h : HeadInv md ops n (listed.setIfInBounds i true) → anyT P md ops Q S n fuel (listed.setIfInBounds i true) (a.put oi.dst v) w) : anyT P md ops Q S n (fuel + 1) listed a w :=
  anyT_take hi hok.sel hok.sink hok.chain hok.lt hin hf hr inv hQ hy hS h
theorem region_anyT2 {id : Nat} {a : Act} {w : World} (hok : TailOk .any ops n) (hm : P.follows .mixedOrders = true) (hS : S w.drew)
    (h : TailOk .any ops n → S w.drew → HeadInv .any ops n (Array.replicate ops.size false) → anyT P .any ops Q S n ops.size (Array.replicate ops.size false) a w.drew) : (Code.region id ops true).wp P Q a w :=
  region_anyT hm hS (h hok)
end

abbrev two3 (w : World) (a b c d e f g h : Int) (t : TypeId) : World := (w.alloc (.cells #[.int .i8 a, .int .i8 b, .int .i8 c, .int .i8 d] t)).alloc (.cells #[.int .i8 e, .int .i8 f, .int .i8 g, .int .i8 h] t)
theorem ivs_p3 (w : World) (a b c d e f g h : Int) (t : TypeId) : Ivs (two3 w a b c d e f g h t) w.heap.size 0 [(a, b), (c, d)] :=
  (ivs_new2 w a b c d t).below ((Below.refl _ _).alloc (Nat.le_refl _) _)
theorem ivs_q3 (w : World) (a b c d e f g h : Int) (t : TypeId) : Ivs (two3 w a b c d e f g h t) (w.heap.size + 1) 0 [(e, f), (g, h)] := by
  have h := ivs_new2 (w.alloc (.cells #[.int .i8 a, .int .i8 b, .int .i8 c, .int .i8 d] t)) e f g h t
  rw [show (w.alloc (.cells #[.int .i8 a, .int .i8 b, .int .i8 c, .int .i8 d] t)).heap.size = w.heap.size + 1 by simp] at h
  exact h
theorem comb2_p3 (a b c d e f g h x y : Int) (w : World) (t : TypeId) (hx : cmbL [(a, b), (c, d)] 0 = x) (hy : cmbH [(a, b), (c, d)] 0 = y) :
    Calls Tryd.prog 15 #[.slice (some ⟨w.heap.size, 0, none⟩) 2 2] (two3 w a b c d e f g h t) (Mk (iv x y) (two3 w a b c d e f g h t)) := by
  have k := combine_any [(a, b), (c, d)] w.heap.size 0 2 _ (by simp) (ivs_p3 w a b c d e f g h t)
  rw [hx, hy] at k; exact k
theorem comb2_q3 (a b c d e f g h x y : Int) (w : World) (t : TypeId) (hx : cmbL [(e, f), (g, h)] 0 = x) (hy : cmbH [(e, f), (g, h)] 0 = y) :
    Calls Tryd.prog 15 #[.slice (some ⟨w.heap.size + 1, 0, none⟩) 2 2] (two3 w a b c d e f g h t) (Mk (iv x y) (two3 w a b c d e f g h t)) := by
  have k := combine_any [(e, f), (g, h)] (w.heap.size + 1) 0 2 _ (by simp) (ivs_q3 w a b c d e f g h t)
  rw [hx, hy] at k; exact k
theorem comb2_pl3 (a b c d e f g h x y : Int) (w wz : World) (t : TypeId) (hb : Below (two3 w a b c d e f g h t).heap.size (two3 w a b c d e f g h t) wz) (hx : cmbL [(a, b), (c, d)] 0 = x) (hy : cmbH [(a, b), (c, d)] 0 = y) :
    Calls Tryd.prog 15 #[.slice (some ⟨w.heap.size, 0, none⟩) 2 2] wz (Mk (iv x y) wz) := by
  have k := combine_any [(a, b), (c, d)] w.heap.size 0 2 _ (by simp) ((ivs_p3 w a b c d e f g h t).below hb)
  rw [hx, hy] at k; exact k
theorem comb2_ql3 (a b c d e f g h x y : Int) (w wz : World) (t : TypeId) (hb : Below (two3 w a b c d e f g h t).heap.size (two3 w a b c d e f g h t) wz) (hx : cmbL [(e, f), (g, h)] 0 = x) (hy : cmbH [(e, f), (g, h)] 0 = y) :
    Calls Tryd.prog 15 #[.slice (some ⟨w.heap.size + 1, 0, none⟩) 2 2] wz (Mk (iv x y) wz) := by
  have k := combine_any [(e, f), (g, h)] (w.heap.size + 1) 0 2 _ (by simp) ((ivs_q3 w a b c d e f g h t).below hb)
  rw [hx, hy] at k; exact k

end Go.Proofs.YtgaihbenlfeeeaaDoor
