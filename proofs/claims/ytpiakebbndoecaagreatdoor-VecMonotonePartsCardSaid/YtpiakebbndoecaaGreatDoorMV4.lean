/-
  Texts of MV joined (VecSX, VecTW, VecSZ, VecT, VecX, VecQ).
-/
import Derived.LoopN
import Derived.Laws.EntriesVeiled
import Derived.Test.YtpiakebbndoecaaGreatDoorMV3
set_option linter.unusedVariables false
set_option linter.unusedSimpArgs false
set_option linter.unusedSectionVars false
namespace Go.Proofs.YtpiakebbndoecaaGreatDoor
section
open Go Go.RowKit
set_option maxRecDepth 100000
set_option linter.unusedSimpArgs false
set_option linter.unusedVariables false
abbrev vagg (A : Option Addr) (m c : Nat) (s : Bool) : Value := .agg #[.slice A m c, .bool s]
section
variable {Q : Exit → Act → World → Prop} {ops : Array Oper} {ρ : Operand → Value} {o : Oper} {x y : Operand} {w : World} {A : Option Addr} {N m c n d : Nat} {s : Bool}
theorem run_ldvec (ho : o.op = .load 24 x) (hx : ρ x = .pointer (some ⟨N, 0, none⟩)) (B : Box N A m c s w) : (execOp ρ o).run Tryz.prog w = .ok (.value (vagg A m c s)) w := by
  have h0 := B.c0
  have h1 := B.c1
  unfold execOp
  rw [ho]
  simp only [hx]
  simp [go_sem, h0, h1]
theorem run_boxvec (ho : o.op = .box 24 x) (hx : ρ x = vagg A m c s) : (execOp ρ o).run Tryz.prog w = .ok (.value (.pointer (some ⟨w.heap.size, 0, none⟩))) (w.alloc (.cells #[.slice A m c, .bool s] 24)) := by
  unfold execOp
  rw [ho]
  simp only [hx]
  simp [go_sem]
theorem run_alvec (ho : o.op = .alloc 24) : (execOp ρ o).run Tryz.prog w = .ok (.value (.pointer (some ⟨w.heap.size, 0, none⟩))) (w.alloc (.cells #[.slice none 0 0, .bool false] 24)) := by
  unfold execOp
  rw [ho]
  simp [go_sem]
theorem run_stnew (ho : o.op = .store 24 x y) (hx : ρ x = .pointer (some ⟨w.heap.size, 0, none⟩)) (hy : ρ y = vagg A m c s) :
    (execOp ρ o).run Tryz.prog (w.alloc (.cells #[.slice none 0 0, .bool false] 24)) = .ok .skip (w.alloc (.cells #[.slice A m c, .bool s] 24)) := by
  unfold execOp
  rw [ho]
  simp only [hx, hy]
  simp [go_sem]
end
section
variable {Q : Exit → Act → World → Prop} {ops : Array Oper} {o o2 : Oper} {rest : List Oper} {x y : Operand} {w W : World} {A : Option Addr} {N m c n d : Nat} {s : Bool} {E : Env}
theorem wpl_ldvec (B : Box N A m c s w) (hd : o.dst = some d) (hw : wnt ops n E o = true) (ho : o.op = .load 24 x) (hx : evl n E x = .pointer (some ⟨N, 0, none⟩))
    (h : WL Tryz.prog ops Q rest n ((d, vagg A m c s) :: E) w) : WL Tryz.prog ops Q (o :: rest) n E w := wpl_val hd hw (run_ldvec ho hx B) h
theorem wpl_boxvec (hd : o.dst = some d) (hw : wnt ops n E o = true) (ho : o.op = .box 24 x) (hx : evl n E x = vagg A m c s)
    (h : ∀ (V : World) (N : Nat), Box N A m c s V → w.heap.size ≤ N → Below w.heap.size w V → WL Tryz.prog ops Q rest n ((d, .pointer (some ⟨N, 0, none⟩)) :: E) V) : WL Tryz.prog ops Q (o :: rest) n E w :=
  wpl_val hd hw (run_boxvec ho hx) (h _ _ (Box.boxed w A m c s) (Nat.le_refl _) ((Below.refl _ _).alloc (Nat.le_refl _) _))
theorem wpl_made (hd : o.dst = some d) (hg : o.guard = none) (ho : o.op = .alloc 24) (hd2 : o2.dst = none) (hg2 : o2.guard = none) (ho2 : o2.op = .store 24 x y)
    (hx : ∀ v : Value, evl n ((d, v) :: E) x = v) (hy : ∀ v : Value, evl n ((d, v) :: E) y = vagg A m c s)
    (h : ∀ (V : World) (N : Nat), Box N A m c s V → w.heap.size ≤ N → Below w.heap.size w V → WL Tryz.prog ops Q rest n ((d, .pointer (some ⟨N, 0, none⟩)) :: E) V) : WL Tryz.prog ops Q (o :: o2 :: rest) n E w :=
  wpl_val hd (by unfold wnt; rw [hg]) (run_alvec ho) (wpl_none hd2 (by unfold wnt; rw [hg2]) (run_stnew ho2 (hx _) (hy _)) (h _ _ (Box.boxed w A m c s) (Nat.le_refl _) ((Below.refl _ _).alloc (Nat.le_refl _) _)))
theorem anyR_ldvec {fuel k mk i m' q : Nat} (B : Box N A m c s W) (F : Rg ops q) (hQ : ∀ c a d v w, Q (.panic c) (Act.put a (some d) v) w → Q (.panic c) a w) (hi : ops[i]? = some o) (hd : o.dst = some d) (hin : Nat.blt i q = true) (hf : freeB ops ops.size mk i o = true) (hr : rdyB ops ops.size mk i = true)
    (hw : wnt ops k E o = true) (hm : Nat.lor mk (Nat.shiftLeft 1 i) = m') (ho : o.op = .load 24 x) (hx : evl k E x = .pointer (some ⟨N, 0, none⟩))
    (h : anyR Tryz.prog ops Q W q fuel m' k ((d, vagg A m c s) :: E) w) : anyR Tryz.prog ops Q W q (fuel + 1) mk k E w :=
  anyR_val F hQ hi hd hin hf hr hw hm (fun w' hb => run_ldvec ho hx (B.kept hb)) h
theorem wpl_bs2 {A0 A1 : Option Addr} {l0 l1 : List Int} {c0 c1 : Nat} {s0 s1 : Bool} {x0 x1 : Operand} (hd : o.dst = some d) (hw : wnt ops n E o = true) (ho : o.op = .buildSlice 58 2 #[(0, x0), (1, x1)]) (h0 : evl n E x0 = vagg A0 l0.length c0 s0) (h1 : evl n E x1 = vagg A1 l1.length c1 s1)
    (o0 : RQ w A0 l0) (y0 : By l0) (k0 : l0.length ≤ 4096) (p0 : Hid (l0.length ≤ c0 ∧ c0 ≤ maxLen)) (o1 : RQ w A1 l1) (y1 : By l1) (k1 : l1.length ≤ 4096) (p1 : Hid (l1.length ≤ c1 ∧ c1 ≤ maxLen))
    (h : ∀ (V : World) (N : Nat), Vrow V N [(A0, l0, c0, s0), (A1, l1, c1, s1)] → N < V.heap.size → w.heap.size ≤ N → Below w.heap.size w V → WL Tryz.prog ops Q rest n ((d, .slice (some ⟨N, 0, none⟩) 2 2) :: E) V) : WL Tryz.prog ops Q (o :: rest) n E w := by
  have hb : Below w.heap.size w (w.alloc (.cells #[.slice A0 l0.length c0, .bool s0, .slice A1 l1.length c1, .bool s1] 24)) := (Below.refl _ _).alloc (Nat.le_refl _) _
  refine wpl_val hd hw (w' := w.alloc (.cells #[.slice A0 l0.length c0, .bool s0, .slice A1 l1.length c1, .bool s1] 24)) (v := .slice (some ⟨w.heap.size, 0, none⟩) 2 2) ?_ (h _ _ ?_ (by simp) (Nat.le_refl _) hb)
  · unfold execOp
    rw [ho]
    simp [go_sem, h0, h1]
  · constructor
    · intro i h; rcases i with _ | _ | i <;> first | (simp [go_sem]; done) | exact absurd h (by simp)
    · intro i h; rcases i with _ | _ | i <;> first | (simp [go_sem]; done) | exact absurd h (by simp)
    · intro i h; rcases i with _ | _ | i <;> first | (exact RQ.below (by assumption) hb) | exact absurd h (by simp)
    · intro i h; rcases i with _ | _ | i <;> first | assumption | exact absurd h (by simp)
    · intro i h; rcases i with _ | _ | i <;> first | assumption | exact absurd h (by simp)
    · intro i h; rcases i with _ | _ | i <;> first | assumption | exact absurd h (by simp)
end
section
variable {w : World} {N m c m2 c2 : Nat} {A A2 : Option Addr} {s s2 : Bool}
theorem Box.st (B : Box N A m c s w) : Box N A2 m2 c2 s2 ((w.setCell ⟨N, 0, none⟩ (.slice A2 m2 c2)).setCell ⟨N, 1, none⟩ (.bool s2)) :=
  ⟨by simpa using B.lt, cset_ne (by simp) (cset_eq B.c0), cset_eq (cset_ne (by simp) B.c1), fset (fset B.f0), fset (fset B.f1)⟩
theorem Box.st_ne {M mm cc : Nat} {AA : Option Addr} {ss : Bool} {u v : Value} (B : Box M AA mm cc ss w) (h : M ≠ N) : Box M AA mm cc ss ((w.setCell ⟨N, 0, none⟩ u).setCell ⟨N, 1, none⟩ v) :=
  ⟨by simpa using B.lt, cset_ne (by omega) (cset_ne (by omega) B.c0), cset_ne (by omega) (cset_ne (by omega) B.c1), fset (fset B.f0), fset (fset B.f1)⟩
theorem RQ.st {AA : Option Addr} {l : List Int} {u v : Value} (B : Box N A m c s w) (h : RQ w AA l) : RQ ((w.setCell ⟨N, 0, none⟩ u).setCell ⟨N, 1, none⟩ v) AA l := fun hn => by
  obtain ⟨ad, e, hlt, hc⟩ := h hn
  refine ⟨ad, e, by simpa using hlt, fun i hi => ?_⟩
  have h0 := hc i hi
  rw [World.cell?_setCell_other _ _ _ _ (fun k => by rw [← k, B.c1] at h0; cases h0), World.cell?_setCell_other _ _ _ _ (fun k => by rw [← k, B.c0] at h0; cases h0)]
  exact h0
theorem st_below {B0 : Nat} {u v : Value} (h : B0 ≤ N) : Below B0 w ((w.setCell ⟨N, 0, none⟩ u).setCell ⟨N, 1, none⟩ v) := ((Below.refl _ _).setCell h _).setCell h _
theorem run_stbox {ρ : Operand → Value} {o : Oper} {x y : Operand} (ho : o.op = .store 24 x y) (hx : ρ x = .pointer (some ⟨N, 0, none⟩)) (hy : ρ y = vagg A2 m2 c2 s2) (B : Box N A m c s w) :
    (execOp ρ o).run Tryz.prog w = .ok .skip ((w.setCell ⟨N, 0, none⟩ (.slice A2 m2 c2)).setCell ⟨N, 1, none⟩ (.bool s2)) := by
  have h0 := B.c0
  have h1 := B.c1
  have h2 := B.f0
  have h3 := B.f1
  unfold execOp
  rw [ho]
  simp only [hx, hy]
  simp [go_sem, h0, h1, h2, h3]
end
/-- What a store into a block leaves. -/
structure Std (N : Nat) (A : Option Addr) (m c : Nat) (s : Bool) (w V : World) : Prop where
  box : Box N A m c s V
  ne : ∀ {M mm cc : Nat} {AA : Option Addr} {ss : Bool}, Box M AA mm cc ss w → M ≠ N → Box M AA mm cc ss V
  rq : ∀ {AA : Option Addr} {l : List Int}, RQ w AA l → RQ V AA l
  bel : ∀ {B : Nat}, B ≤ N → Below B w V
section
variable {Q : Exit → Act → World → Prop} {ops : Array Oper} {o : Oper} {rest : List Oper} {x y : Operand} {w W : World} {A A2 : Option Addr} {N m c m2 c2 n : Nat} {s s2 : Bool} {E : Env}
theorem wpl_st (B : Box N A m c s w) (hd : o.dst = none) (hw : wnt ops n E o = true) (ho : o.op = .store 24 x y) (hx : evl n E x = .pointer (some ⟨N, 0, none⟩)) (hy : evl n E y = vagg A2 m2 c2 s2)
    (h : ∀ V : World, Std N A2 m2 c2 s2 w V → WL Tryz.prog ops Q rest n E V) : WL Tryz.prog ops Q (o :: rest) n E w :=
  wpl_none hd hw (run_stbox ho hx hy B) (h _ ⟨B.st, fun b hne => b.st_ne hne, fun r => r.st B, fun hb => st_below hb⟩)
theorem anyE_st {fuel k mk i m' q : Nat} (B : Box N A m c s w) (hi : ops[i]? = some o) (hd : o.dst = none) (ho' : onlyB ops ops.size mk i = true) (hw : wnt ops k E o = true) (hm : Nat.lor mk (Nat.shiftLeft 1 i) = m') (hin : Nat.ble q i = true)
    (ho : o.op = .store 24 x y) (hx : evl k E x = .pointer (some ⟨N, 0, none⟩)) (hy : evl k E y = vagg A2 m2 c2 s2)
    (h : ∀ V : World, Std N A2 m2 c2 s2 w V → anyE Tryz.prog ops Q W q fuel m' k E V) : anyE Tryz.prog ops Q W q (fuel + 1) mk k E w :=
  anyE_none hi hd ho' hw hm hin (run_stbox ho hx hy B) (h _ ⟨B.st, fun b hne => b.st_ne hne, fun r => r.st B, fun hb => st_below hb⟩)
end
section
variable {Q : Exit → Act → World → Prop} {ops : Array Oper} {o : Oper} {rest : List Oper} {w : World} {n d : Nat} {E : Env}
theorem wpl_bsL4 {A0 A1 A2 A3 : Option Addr} {m0 m1 m2 m3 c0 c1 c2 c3 : Nat} {s0 s1 s2 s3 : Bool} {x0 x1 x2 x3 : Operand} (hd : o.dst = some d) (hw : wnt ops n E o = true) (ho : o.op = .buildSlice 58 4 #[(0, x0), (1, x1), (2, x2), (3, x3)]) (h0 : evl n E x0 = vagg A0 m0 c0 s0) (h1 : evl n E x1 = vagg A1 m1 c1 s1) (h2 : evl n E x2 = vagg A2 m2 c2 s2) (h3 : evl n E x3 = vagg A3 m3 c3 s3)
    (h : ∀ (V : World) (N : Nat), Vls V N [(A0, m0, c0, s0), (A1, m1, c1, s1), (A2, m2, c2, s2), (A3, m3, c3, s3)] → Below w.heap.size w V → WL Tryz.prog ops Q rest n ((d, .slice (some ⟨N, 0, none⟩) 4 4) :: E) V) : WL Tryz.prog ops Q (o :: rest) n E w := by
  have hb : Below w.heap.size w (w.alloc (.cells #[.slice A0 m0 c0, .bool s0, .slice A1 m1 c1, .bool s1, .slice A2 m2 c2, .bool s2, .slice A3 m3 c3, .bool s3] 24)) := (Below.refl _ _).alloc (Nat.le_refl _) _
  refine wpl_val hd hw (w' := w.alloc (.cells #[.slice A0 m0 c0, .bool s0, .slice A1 m1 c1, .bool s1, .slice A2 m2 c2, .bool s2, .slice A3 m3 c3, .bool s3] 24)) (v := .slice (some ⟨w.heap.size, 0, none⟩) 4 4) ?_ (h _ _ ?_ hb)
  · unfold execOp
    rw [ho]
    simp [go_sem, h0, h1, h2, h3]
  · intro i h
    rcases i with _ | _ | _ | _ | i <;> first | (exfalso; simp only [List.length_cons, List.length_nil] at h; omega) | (refine ⟨?_, ?_⟩ <;> simp [go_sem])
end
end
section
open Go Go.RowKit
set_option maxRecDepth 100000
set_option linter.unusedSimpArgs false
set_option linter.unusedVariables false
/-- The table: the operator's number and the function's. -/
def twoT : List (Int × Nat) := [(37, 88), (38, 57), (39, 89), (40, 90), (21, 56), (22, 86), (23, 87), (24, 58), (25, 60), (26, 61), (27, 91), (28, 80), (31, 76), (32, 78), (33, 79), (34, 77), (35, 73), (36, 74), (41, 62), (42, 63), (43, 65), (44, 64), (29, 81), (30, 82)]
/-- A block that holds the table. -/
structure Two (N : Nat) (w : World) : Prop where
  lt : N < w.heap.size
  c0 : ∀ k (h : k < twoT.length), w.cell? ⟨N, k * 2, none⟩ = some (.int .u8 twoT[k].1)
  c1 : ∀ k (h : k < twoT.length), w.cell? ⟨N, k * 2 + 1, none⟩ = some (.func (.func twoT[k].2) #[] #[])
theorem Two.kept {N : Nat} {w w' : World} (h : Two N w) (hb : Below w.heap.size w w') : Two N w' :=
  ⟨Nat.lt_of_lt_of_le h.lt hb.size, fun k hk => (hb.cell (p := ⟨N, k * 2, none⟩) h.lt).trans (h.c0 k hk), fun k hk => (hb.cell (p := ⟨N, k * 2 + 1, none⟩) h.lt).trans (h.c1 k hk)⟩
/-- A block of two cells, whatever they hold. -/
structure Bx2 (N : Nat) (u v : Value) (w : World) : Prop where
  lt : N < w.heap.size
  c0 : w.cell? ⟨N, 0, none⟩ = some u
  c1 : w.cell? ⟨N, 1, none⟩ = some v
theorem Bx2.kept {N : Nat} {u v : Value} {w w' : World} (h : Bx2 N u v w) (hb : Below w.heap.size w w') : Bx2 N u v w' :=
  ⟨Nat.lt_of_lt_of_le h.lt hb.size, (hb.cell (p := ⟨N, 0, none⟩) h.lt).trans h.c0, (hb.cell (p := ⟨N, 1, none⟩) h.lt).trans h.c1⟩
section
variable {Q : Exit → Act → World → Prop} {ops : Array Oper} {o o2 : Oper} {rest : List Oper} {x y : Operand} {w W : World} {N n d k op F : Nat} {E : Env} {z : Int} {A : Option Addr} {m c : Nat} {s : Bool}
theorem run_ldsl {ρ : Operand → Value} (ho : o.op = .load 22 x) (hx : ρ x = .pointer (some ⟨N, 0, none⟩)) (B : Box N A m c s w) : (execOp ρ o).run Tryz.prog w = .ok (.value (.slice A m c)) w := by
  have h0 := B.c0
  unfold execOp
  rw [ho]
  simp only [hx]
  simp [go_sem, h0]
theorem wpl_ldsl (B : Box N A m c s w) (hd : o.dst = some d) (hw : wnt ops n E o = true) (ho : o.op = .load 22 x) (hx : evl n E x = .pointer (some ⟨N, 0, none⟩))
    (h : WL Tryz.prog ops Q rest n ((d, .slice A m c) :: E) w) : WL Tryz.prog ops Q (o :: rest) n E w := wpl_val hd hw (run_ldsl ho hx B) h
end
section
variable {P : Program} {Q : Exit → Act → World → Prop} {c : Code} {n : Nat} {E : Env} {w : World}
theorem loop_r (k : Nat) (h : Code.rounds P c Q k (sl n E) w) : (Code.loop c).wp P Q (sl n E) w := wp_loop_rounds k h
theorem round_s {k : Nat} (h : c.wp P (Exit.then (Code.rounds P c Q k) Q) (sl n E) w) : Code.rounds P c Q (k + 1) (sl n E) w := h
theorem round_keep {k : Nat} (K : Env) (hk : Kp K E) (h : ∀ X : Env, Code.rounds P c Q k (sl n (K ++ X)) w) : Code.rounds P c Q k (sl n E) w := by rw [sl_keep hk]; exact h E
end
end
section
open Go Go.RowKit
set_option maxRecDepth 100000
@[reducible] def pt (N i : Nat) : Value := .pointer (some ⟨N, i, none⟩)
@[reducible] def z_f : Value := .bool false
@[reducible] def z_t : Value := .bool true
@[reducible] def z_R (Na Nb Nx Nz NV : Nat) (b : Value) (k : Int) : Env := [(2, pt Na 0), (3, pt Nb 0), (4, b), (5, pt Nx 0), (6, pt Nz 0), (27, .slice (some ⟨NV, 0, none⟩) 24 24), (28, .int .i64 24), (29, .int .i64 k)]
theorem zGd {l : List Int} {s : Bool} {V : Vc} (E : Hid ((⟨l, s⟩ : Vc) = V)) (h : Gd V.b) : Gd l := by have e := congrArg Vc.b E.out; dsimp only at e; rw [e]; exact h
theorem zLe {l : List Int} (h : Gd l) : Hid (l.length ≤ 4096) := hide (Nat.le_trans h.le (by decide))
theorem zU {n : Nat} {w w1 w2 : World} (h : Below n w w1) (hn : n ≤ w1.heap.size) (hb : Below w1.heap.size w1 w2) : Below n w w2 := h.trans (hb.mono hn)
theorem zQ {w w' : World} {A : Option Addr} {l : List Int} (h : Hid (RQ w A l)) (hb : Below w.heap.size w w') : Hid (RQ w' A l) := hide (RQ.below h.out hb)
theorem zX {N n c : Nat} {A : Option Addr} {s : Bool} {w w' : World} (h : Hid (Box N A n c s w)) (hb : Below w.heap.size w w') : Hid (Box N A n c s w') := hide (Box.kept h.out hb)
section
variable {P : Program} {Q : Exit → Act → World → Prop}
theorem ze {ops : Array Oper} {next : Act → World → Prop} {n : Nat} {E : Env} {w : World} (h : next (sl n E) w) : WL P ops (Exit.then next Q) [] n E w := wpl_end (then_normal h)
theorem zs {id : Nat} {l : List Oper} {c : Code} {n : Nat} {E : Env} {w : World} (h : WL P l.toArray (Exit.then (fun a w => c.wp P Q a w) Q) l n E w) : (Code.seq (Code.region id l.toArray false) c).wp P Q (sl n E) w := wp_seq (reg_lit h)
theorem zif {c : Operand} {x y : Code} {n : Nat} {E : Env} {w : World} (h : y.wp P Q (sl n E) w) (hc : evl n E c = .bool false := by kernel_rfl) : (Code.cond c x y).wp P Q (sl n E) w := wp_iff hc h
theorem zc {ops : Array Oper} {o : Oper} {rest : List Oper} {n d : Nat} {E : Env} {w : World} {f : FuncId} {args : Array Value} (hd : o.dst = some d) (hc : Calls P f args w fun e w' => ∃ v, e = .returned v ∧ WL P ops Q rest n ((d, v) :: E) w') (hw : wnt ops n E o = true := by kernel_rfl) (hr : (execOp (evl n E) o).run P w = .ok (.enter f args) w := by kernel_rfl) : WL P ops Q (o :: rest) n E w := wpl_call hd hw hr hc
theorem z1 {ops : Array Oper} {n : Nat} {o0 : Oper} {rest : List Oper} {E : Env} {w : World} (N : Env) (h : WL P ops Q rest n (N ++ E) w) (hr : runK P ops n 1 (o0 :: rest) E w = some (N ++ E, w) := by kernel_rfl) : WL P ops Q (o0 :: rest) n E w := wpl_r1 N hr h
theorem z2 {ops : Array Oper} {n : Nat} {o0 o1 : Oper} {rest : List Oper} {E : Env} {w : World} (N : Env) (h : WL P ops Q rest n (N ++ E) w) (hr : runK P ops n 2 (o0 :: o1 :: rest) E w = some (N ++ E, w) := by kernel_rfl) : WL P ops Q (o0 :: o1 :: rest) n E w := wpl_r2 N hr h
theorem z3 {ops : Array Oper} {n : Nat} {o0 o1 o2 : Oper} {rest : List Oper} {E : Env} {w : World} (N : Env) (h : WL P ops Q rest n (N ++ E) w) (hr : runK P ops n 3 (o0 :: o1 :: o2 :: rest) E w = some (N ++ E, w) := by kernel_rfl) : WL P ops Q (o0 :: o1 :: o2 :: rest) n E w := wpl_r3 N hr h
theorem z4 {ops : Array Oper} {n : Nat} {o0 o1 o2 o3 : Oper} {rest : List Oper} {E : Env} {w : World} (N : Env) (h : WL P ops Q rest n (N ++ E) w) (hr : runK P ops n 4 (o0 :: o1 :: o2 :: o3 :: rest) E w = some (N ++ E, w) := by kernel_rfl) : WL P ops Q (o0 :: o1 :: o2 :: o3 :: rest) n E w := wpl_r4 N hr h
theorem z5 {ops : Array Oper} {n : Nat} {o0 o1 o2 o3 o4 : Oper} {rest : List Oper} {E : Env} {w : World} (N : Env) (h : WL P ops Q rest n (N ++ E) w) (hr : runK P ops n 5 (o0 :: o1 :: o2 :: o3 :: o4 :: rest) E w = some (N ++ E, w) := by kernel_rfl) : WL P ops Q (o0 :: o1 :: o2 :: o3 :: o4 :: rest) n E w := wpl_r5 N hr h
theorem z6 {ops : Array Oper} {n : Nat} {o0 o1 o2 o3 o4 o5 : Oper} {rest : List Oper} {E : Env} {w : World} (N : Env) (h : WL P ops Q rest n (N ++ E) w) (hr : runK P ops n 6 (o0 :: o1 :: o2 :: o3 :: o4 :: o5 :: rest) E w = some (N ++ E, w) := by kernel_rfl) : WL P ops Q (o0 :: o1 :: o2 :: o3 :: o4 :: o5 :: rest) n E w := wpl_r6 N hr h
variable {ops : Array Oper} {W w : World} {n fuel m k : Nat} {E : Env}
theorem zav {i d m' : Nat} {o : Oper} {v : Value} (F : Rg ops n) (hQ : ∀ c a d v w, Q (.panic c) (Act.put a (some d) v) w → Q (.panic c) a w) (hi : ops[i]? = some o) (hd : o.dst = some d) (h : anyR P ops Q W n fuel m' k ((d, v) :: E) w)
    (hin : Nat.blt i n = true := by kernel_rfl) (hf : freeB ops ops.size m i o = true := by kernel_rfl) (hr : rdyB ops ops.size m i = true := by kernel_rfl) (hw : wnt ops k E o = true := by kernel_rfl) (hm : Nat.lor m (Nat.shiftLeft 1 i) = m' := by kernel_rfl)
    (hy : ∀ w', Below W.heap.size W w' → (execOp (evl k E) o).run P w' = .ok (.value v) w' := by intro _ _; kernel_rfl) : anyR P ops Q W n (fuel + 1) m k E w := anyR_val F hQ hi hd hin hf hr hw hm hy h
theorem zac {i d m' : Nat} {o : Oper} {f : FuncId} {args : Array Value} (hi : ops[i]? = some o) (hd : o.dst = some d) (hc : Calls P f args w fun e w' => ∃ v, e = .returned v ∧ Below w.heap.size w w' ∧ anyR P ops Q W n fuel m' k ((d, v) :: E) w')
    (hin : Nat.blt i n = true := by kernel_rfl) (ho : onlyB ops ops.size m i = true := by kernel_rfl) (hw : wnt ops k E o = true := by kernel_rfl) (hm : Nat.lor m (Nat.shiftLeft 1 i) = m' := by kernel_rfl)
    (hr : (execOp (evl k E) o).run P w = .ok (.enter f args) w := by kernel_rfl) : anyR P ops Q W n (fuel + 1) m k E w := anyR_call hi hd hin ho hw hm hr hc
end
section
variable {Q : Exit → Act → World → Prop} {ops : Array Oper} {o o2 : Oper} {rest : List Oper} {x y : Operand} {w W : World} {A : Option Addr} {N m c n d k : Nat} {s : Bool} {E : Env} {z : Int}
theorem zv (B : Box N A m c s w) (hd : o.dst = some d) (ho : o.op = .load 24 x) (h : WL Tryz.prog ops Q rest n ((d, vagg A m c s) :: E) w) (hw : wnt ops n E o = true := by kernel_rfl) (hx : evl n E x = .pointer (some ⟨N, 0, none⟩) := by kernel_rfl) : WL Tryz.prog ops Q (o :: rest) n E w := wpl_ldvec B hd hw ho hx h
theorem zl (B : Box N A m c s w) (hd : o.dst = some d) (ho : o.op = .load 22 x) (h : WL Tryz.prog ops Q rest n ((d, .slice A m c) :: E) w) (hw : wnt ops n E o = true := by kernel_rfl) (hx : evl n E x = .pointer (some ⟨N, 0, none⟩) := by kernel_rfl) : WL Tryz.prog ops Q (o :: rest) n E w := wpl_ldsl B hd hw ho hx h
theorem zm (hd : o.dst = some d) (ho : o.op = .alloc 24) (ho2 : o2.op = .store 24 x y)
    (h : ∀ (V : World) (N : Nat), Box N A m c s V → w.heap.size ≤ N → Below w.heap.size w V → WL Tryz.prog ops Q rest n ((d, .pointer (some ⟨N, 0, none⟩)) :: E) V)
    (hg : o.guard = none := by kernel_rfl) (hd2 : o2.dst = none := by kernel_rfl) (hg2 : o2.guard = none := by kernel_rfl) (hx : ∀ v : Value, evl n ((d, v) :: E) x = v := by intro _; kernel_rfl) (hy : ∀ v : Value, evl n ((d, v) :: E) y = vagg A m c s := by intro _; kernel_rfl) : WL Tryz.prog ops Q (o :: o2 :: rest) n E w := wpl_made hd hg ho hd2 hg2 ho2 hx hy h
end
end
section
open Go.RowKit
set_option maxRecDepth 100000
set_option linter.unusedSimpArgs false
set_option linter.unusedVariables false
theorem step_make_bv {w : World} {ops : Array Oper} {o : Oper} {a : Act} {K : Act → World → Prop} {Q : Exit → Act → World → Prop} {E : Prop} (hg : o.guard = none) (x y : Operand) (hop : o.op = Op.makeSlice 90 x y)
    (L C : Int) (n : Nat) (hl : a.eval x = .int .i64 L) (hc : a.eval y = .int .i64 C) (hL : L = n) (hC : C = n) (hn : n ≤ 4096)
    (hK : ∀ w', RowF w' w.heap.size n (fun _ => false) → Below w.heap.size w w' → K (a.put o.dst (.slice (some ⟨w.heap.size, 0, none⟩) n n)) w') :
    if Region.wanted o (yielded ops a.tmps) = true then Oper.wp Tryz.prog o a w K Q else E := by
  have hw : Region.wanted o (yielded ops a.tmps) = true := by simp [Region.wanted, hg]
  rw [if_pos hw]
  obtain ⟨i0, hi, hz0, hz1, hz2⟩ := info_parts bool_info
  obtain ⟨w', hrun, hown, hgrow⟩ := run_make_full (P := Tryz.prog) w w.heap.size 90 4 i0 (.bool false) 1 Tryz.underlying90 hi hz0 hz1 .i64 .i64 n (by rw [hz2]; omega) (by simp only [maxLen]; omega) (Nat.le_refl _)
  subst hL
  subst hC
  unfold Oper.wp
  simp [execOp, hop, hl, hc, hrun, Result.andThen]
  have hlen : (madeCells (Value.bool false).cells (n * 1)).toList = (List.replicate n false).map Value.bool := by
    rw [Nat.mul_one, show (Value.bool false).cells = #[.bool false] from rfl, toList_madeCells_one, List.map_replicate]
  rw [hlen] at hown
  have hr : RowF w' w.heap.size n (fun _ => false) := by
    have h1 : (List.replicate n false).length = n := by simp
    have h2 := row_of_own (l := List.replicate n false) (by rw [h1]; exact hown)
    rw [h1] at h2
    exact h2.congr fun i hi => by unfold bt; simp [hi]
  exact hK w' hr ((Below.refl _ _).grown hgrow (Nat.le_refl _) (fun k hk => by cases hk))
theorem zr_fb (n : Nat) : fb (bl n fun _ => false) = ql n fun _ => 0 := by
  unfold fb
  rw [bl_length]
  exact ql_congr fun i hi => by rw [bt_bl_lt hi]; rfl
end
section
open Go.RowKit
set_option maxRecDepth 100000
set_option linter.unusedSimpArgs false
set_option linter.unusedVariables false
theorem vl_zero (l : List Int) (s : Bool) : vl l s = 0 ↔ nv (nb l) = 0 := by
  have h := nv_lt (nb l)
  have hc : ((2 ^ (nb l).length : Nat) : Int) = (2 : Int) ^ (nb l).length := by simp
  have hp : (0 : Int) < 2 ^ (nb l).length := Int.pow_pos (by decide)
  unfold vl sv
  rcases Nat.eq_zero_or_pos (nv (nb l)) with e | e
  · cases s
    · simp [e]
    · have h0 : ¬ ng (nb l) = true := by
        rw [ng_iff]
        rintro ⟨_, h2⟩
        have : 0 < 2 ^ ((nb l).length - 1) := Nat.two_pow_pos _
        omega
      simp only [if_true]
      rw [if_neg h0]; simp [e]
  · cases s
    · simp
    · simp only [if_true]
      split <;> omega
theorem rd_or {l : List Int} (g : Gd l) (h : kn l = true) : ∀ n, n < l.length → (rd mOr l n = 0 ↔ ∀ i, i ≤ n → qt l i = 0) ∧ (rd mOr l n = 0 ∨ rd mOr l n = 1)
  | 0, h0 => by
    have h1 := (kn_iff l).1 h 0 h0
    unfold mKnown at h1
    have h2 := of_decide_eq_true h1
    have h4 := (g.bd 0).1
    have h3 : rd mOr l 0 = mBuf (qt l 0) := rfl
    rw [h3]
    rcases (show qt l 0 = 0 ∨ qt l 0 = 1 by omega) with e | e
    · rw [e]; exact ⟨⟨fun _ i hi => by rw [show i = 0 by omega]; exact e, fun _ => rfl⟩, Or.inl rfl⟩
    · rw [e]; exact ⟨⟨fun h => absurd h (by decide), fun h => by have := h 0 (Nat.le_refl _); omega⟩, Or.inr rfl⟩
  | n + 1, h0 => by
    have h1 := (kn_iff l).1 h (n + 1) h0
    unfold mKnown at h1
    have h2 := of_decide_eq_true h1
    have h4 := (g.bd (n + 1)).1
    have h3 : rd mOr l (n + 1) = mOr (rd mOr l n) (qt l (n + 1)) := rfl
    obtain ⟨k1, k2⟩ := rd_or g h n (by omega)
    rw [h3]
    rcases (show qt l (n + 1) = 0 ∨ qt l (n + 1) = 1 by omega) with e | e <;> rcases k2 with k | k <;> rw [e, k]
    · refine ⟨⟨fun _ i hi => ?_, fun _ => rfl⟩, Or.inl rfl⟩
      rcases Nat.lt_or_ge i (n + 1) with q | q
      · exact k1.1 k i (by omega)
      · rw [show i = n + 1 by omega]; exact e
    · exact ⟨⟨fun h => absurd h (by decide), fun h => by have := k1.2 fun i hi => h i (by omega); omega⟩, Or.inr rfl⟩
    · exact ⟨⟨fun h => absurd h (by decide), fun h => by have := h (n + 1) (Nat.le_refl _); omega⟩, Or.inr rfl⟩
    · exact ⟨⟨fun h => absurd h (by decide), fun h => by have := h (n + 1) (Nat.le_refl _); omega⟩, Or.inr rfl⟩
theorem tr_zero {l : List Int} (s : Bool) (g : Gd l) (h : kn l = true) : tr ⟨l, s⟩ = 0 ↔ vl l s = 0 := by
  have e : tr ⟨l, s⟩ = rd mOr l (l.length - 1) := by unfold tr red; rw [cnt_of_gd (v := ⟨l, s⟩) g]
  have hp := g.pos
  rw [vl_zero, e, (rd_or g h _ (by omega)).1]
  constructor
  · intro k
    unfold nv
    exact nf_none fun i hi => by
      rw [nb_length] at hi
      unfold nb
      rw [bt_bl_lt hi, k i (by omega)]; decide
  · intro k i hi
    have hb := (kn_iff l).1 h i (by omega)
    unfold mKnown at hb
    have h2 := of_decide_eq_true hb
    have h4 := (g.bd i).1
    rcases (show qt l i = 0 ∨ qt l i = 1 by omega) with q | q
    · exact q
    · exfalso
      have h5 : nb l = vz (nb l).length 0 := nv_inj (by rw [vz_length]) (by rw [k]; have := nv_vz (nb l).length 0; simp at this; omega)
      have h6 : bt (nb l) i = false := by
        rw [h5]; unfold vz
        by_cases hi2 : i < (nb l).length
        · rw [bt_bl_lt hi2]; unfold zb; simp
        · rw [nb_length] at hi2; omega
      unfold nb at h6
      rw [bt_bl_lt (by omega), q] at h6
      exact absurd h6 (by decide)
theorem sv_nx (l : List Int) (s : Bool) : sv (nx l s) = vl l s := by
  unfold nx vl
  cases s
  · simp only [Bool.false_eq_true, if_false]
    have e : nv (nb l ++ [false]) = nv (nb l) := by rw [nv_snoc]; simp
    have h0 : ¬ ng (nb l ++ [false]) = true := by
      rw [ng_iff]
      rintro ⟨_, h2⟩
      rw [e] at h2
      have := nv_lt (nb l)
      simp at h2
      omega
    unfold sv
    rw [if_neg h0, e]
  · rfl
/-- What Int answers of known bits. -/
theorem IntV.known {l : List Int} {s : Bool} {e : Ending} (g : Gd l) (h : kn l = true) (he : IntV ⟨l, s⟩ e) :
    (e = .returned (.tuple #[.int .i64 (vl l s), .bool true]) ∧ -9223372036854775808 ≤ vl l s ∧ vl l s ≤ 9223372036854775807) ∨ (e = .returned (.tuple #[.int .i64 0, .bool false]) ∧ ¬ vl l s = 0 ∧ ¬ vl l s = 1 ∧ ¬ vl l s = -1) := by
  unfold IntV at he
  rw [cnt_of_gd (v := ⟨l, s⟩) g] at he
  rw [if_pos h] at he
  unfold IntA at he
  rw [sv_nx] at he
  dsimp only at he
  rcases he with ⟨h1, h2, h3⟩ | ⟨h1, h2⟩
  · exact Or.inl ⟨h3, h1, h2⟩
  · exact Or.inr ⟨h2, by omega, by omega, by omega⟩
theorem pow_q (A B : Option Addr) (a b : List Bool) (c d : Nat) (w : World) (ha : a.length ≤ 4096) (hb : b.length ≤ 4096) (hA : Rd w A a) (hB : Rd w B b) : Calls Tryz.prog 155 #[.slice A a.length c, .slice B b.length d] w (RetP (fun l => l = vz a.length ((nv a : Int) ^ nv b)) w) :=
  (pow_any A B a b c d w ha hb hA hB).mono fun _ _ h => RetP.of_mkV rfl h
set_option maxHeartbeats 2000000 in
theorem vPow_any (A B : Option Addr) (a b : List Int) (c d : Nat) (s t : Bool) (w : World) (ha : a.length ≤ 4096) (hb : b.length ≤ 4096) (hca : Hid (a.length ≤ c ∧ c ≤ maxLen)) (hcb : Hid (b.length ≤ d ∧ d ≤ maxLen)) (hA : RQ w A a) (hB : RQ w B b) (ya : By a) (yb : By b) (ht : Tabs w) :
    Calls Tryz.prog 61 #[.agg #[.slice A a.length c, .bool s], .agg #[.slice B b.length d, .bool t]] w (RetC (· = vPow ⟨a, s⟩ ⟨b, t⟩) w) := by
  have HT := hide ht
  clear ht
  have HA := hide hA
  have HBB := hide hB
  have LA := hide ha
  have LB := hide hb
  have YA := hide ya
  have YB := hide yb
  clear hA hB ha hb ya yb
  obtain ⟨R, hR⟩ : ∃ R, R = vPow ⟨a, s⟩ ⟨b, t⟩ := ⟨_, rfl⟩
  rw [← hR]
  unfold vPow at hR
  have HR := hide hR
  clear hR
  go_enter Tryz.func61, Tryz.ntmps61
  go_wp2_with fail
  obtain ⟨W1, hW1⟩ : ∃ x, x = (((w.alloc (Obj.cells #[Value.slice A a.length c, Value.bool s] 24)).alloc (Obj.cells #[Value.slice B b.length d, Value.bool t] 24)).alloc (Obj.cells #[Value.slice none 0 0, Value.bool false] 24)) := ⟨_, rfl⟩
  rw [← hW1]
  have hBW1 : Below w.heap.size w W1 := by rw [hW1]; exact (by (repeat (first | with_reducible exact Below.refl _ _ | with_reducible assumption | with_reducible refine Below.setCell ?_ (by first | (simp; done) | omega | (simp; omega)) _ | with_reducible refine Below.alloc ?_ (by first | (simp; done) | omega | (simp; omega)) _ | with_reducible refine below_drewN ?_ _ | with_reducible refine Below.drew ?_)))
  have qW1_0 : W1.cell? ⟨w.heap.size, 0, none⟩ = some (Value.slice A a.length c) := by rw [hW1]; simp [go_sem]
  have fW1_0 : W1.frozen? ⟨w.heap.size, 0, none⟩ = false := by rw [hW1]; simp [go_sem]
  have qW1_1 : W1.cell? ⟨w.heap.size, 1, none⟩ = some (Value.bool s) := by rw [hW1]; simp [go_sem]
  have fW1_1 : W1.frozen? ⟨w.heap.size, 1, none⟩ = false := by rw [hW1]; simp [go_sem]
  have qW1_2 : W1.cell? ⟨w.heap.size + 1, 0, none⟩ = some (Value.slice B b.length d) := by rw [hW1]; simp [go_sem]
  have fW1_2 : W1.frozen? ⟨w.heap.size + 1, 0, none⟩ = false := by rw [hW1]; simp [go_sem]
  have qW1_3 : W1.cell? ⟨w.heap.size + 1, 1, none⟩ = some (Value.bool t) := by rw [hW1]; simp [go_sem]
  have fW1_3 : W1.frozen? ⟨w.heap.size + 1, 1, none⟩ = false := by rw [hW1]; simp [go_sem]
  have qW1_4 : W1.cell? ⟨w.heap.size + 2, 0, none⟩ = some (Value.slice none 0 0) := by rw [hW1]; simp [go_sem]
  have fW1_4 : W1.frozen? ⟨w.heap.size + 2, 0, none⟩ = false := by rw [hW1]; simp [go_sem]
  have qW1_5 : W1.cell? ⟨w.heap.size + 2, 1, none⟩ = some (Value.bool false) := by rw [hW1]; simp [go_sem]
  have fW1_5 : W1.frozen? ⟨w.heap.size + 2, 1, none⟩ = false := by rw [hW1]; simp [go_sem]
  have zW1_0 : w.heap.size < W1.heap.size := by rw [hW1]; first | (simp; done) | (simp; omega)
  have zW1_1 : w.heap.size + 1 < W1.heap.size := by rw [hW1]; first | (simp; done) | (simp; omega)
  have zW1_2 : w.heap.size + 2 < W1.heap.size := by rw [hW1]; first | (simp; done) | (simp; omega)
  clear hW1
  refine region_anyT (S := fun wS => Below W1.heap.size W1 wS) (n := 4) (by kernel_rfl) (Below.refl _ _).drew (fun hS inv => ?_)
  refine anyT_take (i := 0) (oi := _) (v := Value.agg #[Value.slice A a.length c, Value.bool s]) rfl (by kernel_rfl) (by kernel_rfl) (by kernel_rfl) (by decide) (by decide) (by kernel_rfl) (by kernel_rfl) inv (fun _ _ _ h => h) (Or.inl ⟨by kernel_rfl, ?_⟩) hS (fun inv => ?_)
  · intro wz hSw
    have hk0 := (hSw : Below _ _ _).cell (p := ⟨w.heap.size, 0, none⟩) (by first | assumption | (simp; done) | omega | (simp; omega)); have hk1 := (hSw : Below _ _ _).cell (p := ⟨w.heap.size, 1, none⟩) (by first | assumption | (simp; done) | omega | (simp; omega)); go_simp
  (try simp only [Act.put, List.getElem_toArray, List.getElem_cons_zero, List.getElem_cons_succ, List.setIfInBounds_toArray, List.set_cons_zero, List.set_cons_succ])
  refine anyT_take (i := 2) (oi := _) (v := Value.agg #[Value.slice B b.length d, Value.bool t]) rfl (by kernel_rfl) (by kernel_rfl) (by kernel_rfl) (by decide) (by decide) (by kernel_rfl) (by kernel_rfl) inv (fun _ _ _ h => h) (Or.inl ⟨by kernel_rfl, ?_⟩) hS (fun inv => ?_)
  · intro wz hSw
    have hk0 := (hSw : Below _ _ _).cell (p := ⟨w.heap.size + 1, 0, none⟩) (by first | assumption | (simp; done) | omega | (simp; omega)); have hk1 := (hSw : Below _ _ _).cell (p := ⟨w.heap.size + 1, 1, none⟩) (by first | assumption | (simp; done) | omega | (simp; omega)); go_simp
  (try simp only [Act.put, List.getElem_toArray, List.getElem_cons_zero, List.getElem_cons_succ, List.setIfInBounds_toArray, List.set_cons_zero, List.set_cons_succ])
  refine anyT_ready (rs := [1]) (by kernel_rfl) (by simp) ?_
  refine ReadyT.head (o := _) rfl (by decide) (by kernel_rfl) inv (fun K hK => ?_) ReadyT.nil
  go_simp
  refine (counted_any A a c s w _ LA.out hca HA.out (by (repeat (first | with_reducible exact Below.refl _ _ | with_reducible assumption | with_reducible refine Below.setCell ?_ (by first | (simp; done) | omega | (simp; omega)) _ | with_reducible refine Below.alloc ?_ (by first | (simp; done) | omega | (simp; omega)) _ | with_reducible refine below_drewN ?_ _ | with_reducible refine Below.drew ?_)))).mono ?_
  rintro e w1 ⟨l1, s1, A1, c1, E1, rfl, C1, O1, hb⟩
  go_wp2_with fail
  refine hK.out _ _ ?_ (fun hS inv => ?_)
  · exact (hS : Below W1.heap.size W1 _).trans (hb.mono (Below.size hS))
  clear hK K
  (try simp only [Act.put, List.getElem_toArray, List.getElem_cons_zero, List.getElem_cons_succ, List.setIfInBounds_toArray, List.set_cons_zero, List.set_cons_succ])
  replace O1 := hide (O1.out.lower (show w.heap.size + 3 ≤ _ by first | omega | (simp; omega) | (simp; done)))
  have hB1 : Below w.heap.size w w1 := Below.trans (by (repeat (first | with_reducible exact Below.refl _ _ | with_reducible assumption | with_reducible refine Below.setCell ?_ (by first | (simp; done) | omega | (simp; omega)) _ | with_reducible refine Below.alloc ?_ (by first | (simp; done) | omega | (simp; omega)) _ | with_reducible refine below_drewN ?_ _ | with_reducible refine Below.drew ?_))) (hb.mono (by first | omega | (simp; done) | (simp; omega)))
  obtain ⟨kc1, kf1⟩ := bcell hb
  have hz1 := hb.size
  (try simp at hz1)
  have n1_0 : w.heap.size < w1.heap.size := by omega
  have n1_1 : w.heap.size + 1 < w1.heap.size := by omega
  have n1_2 : w.heap.size + 2 < w1.heap.size := by omega
  have r1_0 : w1.cell? ⟨w.heap.size + 2, 0, none⟩ = some (.slice none 0 0) := (kc1 _ _ (by first | assumption | (simp; done) | omega | (simp; omega))).trans (by first | assumption | (simp [go_sem]; done) | (simp; done))
  have g1_0 : w1.frozen? ⟨w.heap.size + 2, 0, none⟩ = false := (kf1 _ _ (by first | assumption | (simp; done) | omega | (simp; omega))).trans (by first | assumption | (simp [go_sem]; done) | (simp; done))
  have r1_1 : w1.cell? ⟨w.heap.size + 2, 1, none⟩ = some (.bool false) := (kc1 _ _ (by first | assumption | (simp; done) | omega | (simp; omega))).trans (by first | assumption | (simp [go_sem]; done) | (simp; done))
  have g1_1 : w1.frozen? ⟨w.heap.size + 2, 1, none⟩ = false := (kf1 _ _ (by first | assumption | (simp; done) | omega | (simp; omega))).trans (by first | assumption | (simp [go_sem]; done) | (simp; done))
  clear hb
  have m1_0 : w1.cell? ⟨w.heap.size, 0, none⟩ = some (Value.slice A a.length c) := (kc1 _ _ (by first | assumption | (simp; done) | omega | (simp; omega))).trans (by first | assumption | (simp [go_sem]; done))
  have v1_0 : w1.frozen? ⟨w.heap.size, 0, none⟩ = false := (kf1 _ _ (by first | assumption | (simp; done) | omega | (simp; omega))).trans (by first | assumption | (simp [go_sem]; done))
  have m1_1 : w1.cell? ⟨w.heap.size, 1, none⟩ = some (Value.bool s) := (kc1 _ _ (by first | assumption | (simp; done) | omega | (simp; omega))).trans (by first | assumption | (simp [go_sem]; done))
  have v1_1 : w1.frozen? ⟨w.heap.size, 1, none⟩ = false := (kf1 _ _ (by first | assumption | (simp; done) | omega | (simp; omega))).trans (by first | assumption | (simp [go_sem]; done))
  have m1_2 : w1.cell? ⟨w.heap.size + 1, 0, none⟩ = some (Value.slice B b.length d) := (kc1 _ _ (by first | assumption | (simp; done) | omega | (simp; omega))).trans (by first | assumption | (simp [go_sem]; done))
  have v1_2 : w1.frozen? ⟨w.heap.size + 1, 0, none⟩ = false := (kf1 _ _ (by first | assumption | (simp; done) | omega | (simp; omega))).trans (by first | assumption | (simp [go_sem]; done))
  have m1_3 : w1.cell? ⟨w.heap.size + 1, 1, none⟩ = some (Value.bool t) := (kc1 _ _ (by first | assumption | (simp; done) | omega | (simp; omega))).trans (by first | assumption | (simp [go_sem]; done))
  have v1_3 : w1.frozen? ⟨w.heap.size + 1, 1, none⟩ = false := (kf1 _ _ (by first | assumption | (simp; done) | omega | (simp; omega))).trans (by first | assumption | (simp [go_sem]; done))
  have m1_4 : w1.cell? ⟨w.heap.size + 2, 0, none⟩ = some (Value.slice none 0 0) := (kc1 _ _ (by first | assumption | (simp; done) | omega | (simp; omega))).trans (by first | assumption | (simp [go_sem]; done))
  have v1_4 : w1.frozen? ⟨w.heap.size + 2, 0, none⟩ = false := (kf1 _ _ (by first | assumption | (simp; done) | omega | (simp; omega))).trans (by first | assumption | (simp [go_sem]; done))
  have m1_5 : w1.cell? ⟨w.heap.size + 2, 1, none⟩ = some (Value.bool false) := (kc1 _ _ (by first | assumption | (simp; done) | omega | (simp; omega))).trans (by first | assumption | (simp [go_sem]; done))
  have v1_5 : w1.frozen? ⟨w.heap.size + 2, 1, none⟩ = false := (kf1 _ _ (by first | assumption | (simp; done) | omega | (simp; omega))).trans (by first | assumption | (simp [go_sem]; done))
  clear kc1 kf1
  refine anyT_ready (rs := [3]) (by kernel_rfl) (by simp) ?_
  refine ReadyT.head (o := _) rfl (by decide) (by kernel_rfl) inv (fun K hK => ?_) ReadyT.nil
  go_simp
  refine (counted_any B b d t w _ LB.out hcb HBB.out (by (repeat (first | with_reducible exact Below.refl _ _ | with_reducible assumption | with_reducible refine Below.setCell ?_ (by first | (simp; done) | omega | (simp; omega)) _ | with_reducible refine Below.alloc ?_ (by first | (simp; done) | omega | (simp; omega)) _ | with_reducible refine below_drewN ?_ _ | with_reducible refine Below.drew ?_)))).mono ?_
  rintro e w2 ⟨l2, s2, A2, c2, E2, rfl, C2, O2, hb⟩
  go_wp2_with fail
  refine hK.out _ _ ?_ (fun hS inv => ?_)
  · exact (hS : Below W1.heap.size W1 _).trans (hb.mono (Below.size hS))
  clear hK K
  (try simp only [Act.put, List.getElem_toArray, List.getElem_cons_zero, List.getElem_cons_succ, List.setIfInBounds_toArray, List.set_cons_zero, List.set_cons_succ])
  replace O1 := hide ((show RG w.heap.size (w.heap.size + 3) _ A1 l1 by (repeat (first | with_reducible exact O1.out | with_reducible refine RG.setc ?_ (by first | (simp; done) | omega | (simp; omega)) (by first | (simp; done) | omega | (simp; omega)) _ | with_reducible refine RG.allc ?_ _ | with_reducible refine RG.drew ?_ | with_reducible refine RG.drewN ?_ _))).kept hb)
  replace O2 := hide (O2.out.lower (show w.heap.size + 3 ≤ _ by first | omega | (simp; omega) | (simp; done)))
  have hB2 : Below w.heap.size w w2 := Below.trans (by (repeat (first | with_reducible exact Below.refl _ _ | with_reducible assumption | with_reducible refine Below.setCell ?_ (by first | (simp; done) | omega | (simp; omega)) _ | with_reducible refine Below.alloc ?_ (by first | (simp; done) | omega | (simp; omega)) _ | with_reducible refine below_drewN ?_ _ | with_reducible refine Below.drew ?_))) (hb.mono (by first | omega | (simp; done) | (simp; omega)))
  obtain ⟨kc2, kf2⟩ := bcell hb
  have hz2 := hb.size
  (try simp at hz2)
  have n2_0 : w.heap.size < w2.heap.size := by omega
  have n2_1 : w.heap.size + 1 < w2.heap.size := by omega
  have n2_2 : w.heap.size + 2 < w2.heap.size := by omega
  have r2_0 : w2.cell? ⟨w.heap.size + 2, 0, none⟩ = some (.slice none 0 0) := (kc2 _ _ (by first | assumption | (simp; done) | omega | (simp; omega))).trans (by first | assumption | (simp [go_sem]; done) | (simp; done))
  have g2_0 : w2.frozen? ⟨w.heap.size + 2, 0, none⟩ = false := (kf2 _ _ (by first | assumption | (simp; done) | omega | (simp; omega))).trans (by first | assumption | (simp [go_sem]; done) | (simp; done))
  have r2_1 : w2.cell? ⟨w.heap.size + 2, 1, none⟩ = some (.bool false) := (kc2 _ _ (by first | assumption | (simp; done) | omega | (simp; omega))).trans (by first | assumption | (simp [go_sem]; done) | (simp; done))
  have g2_1 : w2.frozen? ⟨w.heap.size + 2, 1, none⟩ = false := (kf2 _ _ (by first | assumption | (simp; done) | omega | (simp; omega))).trans (by first | assumption | (simp [go_sem]; done) | (simp; done))
  clear hb
  have m2_0 : w2.cell? ⟨w.heap.size, 0, none⟩ = some (Value.slice A a.length c) := (kc2 _ _ (by first | assumption | (simp; done) | omega | (simp; omega))).trans (by first | assumption | (simp [go_sem]; done))
  have v2_0 : w2.frozen? ⟨w.heap.size, 0, none⟩ = false := (kf2 _ _ (by first | assumption | (simp; done) | omega | (simp; omega))).trans (by first | assumption | (simp [go_sem]; done))
  have m2_1 : w2.cell? ⟨w.heap.size, 1, none⟩ = some (Value.bool s) := (kc2 _ _ (by first | assumption | (simp; done) | omega | (simp; omega))).trans (by first | assumption | (simp [go_sem]; done))
  have v2_1 : w2.frozen? ⟨w.heap.size, 1, none⟩ = false := (kf2 _ _ (by first | assumption | (simp; done) | omega | (simp; omega))).trans (by first | assumption | (simp [go_sem]; done))
  have m2_2 : w2.cell? ⟨w.heap.size + 1, 0, none⟩ = some (Value.slice B b.length d) := (kc2 _ _ (by first | assumption | (simp; done) | omega | (simp; omega))).trans (by first | assumption | (simp [go_sem]; done))
  have v2_2 : w2.frozen? ⟨w.heap.size + 1, 0, none⟩ = false := (kf2 _ _ (by first | assumption | (simp; done) | omega | (simp; omega))).trans (by first | assumption | (simp [go_sem]; done))
  have m2_3 : w2.cell? ⟨w.heap.size + 1, 1, none⟩ = some (Value.bool t) := (kc2 _ _ (by first | assumption | (simp; done) | omega | (simp; omega))).trans (by first | assumption | (simp [go_sem]; done))
  have v2_3 : w2.frozen? ⟨w.heap.size + 1, 1, none⟩ = false := (kf2 _ _ (by first | assumption | (simp; done) | omega | (simp; omega))).trans (by first | assumption | (simp [go_sem]; done))
  have m2_4 : w2.cell? ⟨w.heap.size + 2, 0, none⟩ = some (Value.slice none 0 0) := (kc2 _ _ (by first | assumption | (simp; done) | omega | (simp; omega))).trans (by first | assumption | (simp [go_sem]; done))
  have v2_4 : w2.frozen? ⟨w.heap.size + 2, 0, none⟩ = false := (kf2 _ _ (by first | assumption | (simp; done) | omega | (simp; omega))).trans (by first | assumption | (simp [go_sem]; done))
  have m2_5 : w2.cell? ⟨w.heap.size + 2, 1, none⟩ = some (Value.bool false) := (kc2 _ _ (by first | assumption | (simp; done) | omega | (simp; omega))).trans (by first | assumption | (simp [go_sem]; done))
  have v2_5 : w2.frozen? ⟨w.heap.size + 2, 1, none⟩ = false := (kf2 _ _ (by first | assumption | (simp; done) | omega | (simp; omega))).trans (by first | assumption | (simp [go_sem]; done))
  clear kc2 kf2
  refine anyT_ready (rs := [4]) (by kernel_rfl) (by simp) ?_
  refine ReadyT.tail (o := _) rfl (by decide) (fun K hK => ?_)
  go_simp
  refine hK.out _ _ ?_
  clear hK K
  (try simp only [Act.put, List.getElem_toArray, List.getElem_cons_zero, List.getElem_cons_succ, List.setIfInBounds_toArray, List.set_cons_zero, List.set_cons_succ])
  refine anyT_ready (rs := [5]) (by kernel_rfl) (by simp) ?_
  refine ReadyT.tail (o := _) rfl (by decide) (fun K hK => ?_)
  go_simp
  refine hK.out _ _ ?_
  clear hK K
  (try simp only [Act.put, List.getElem_toArray, List.getElem_cons_zero, List.getElem_cons_succ, List.setIfInBounds_toArray, List.set_cons_zero, List.set_cons_succ])
  refine anyT_done (by kernel_rfl) ?_ _
  go_wp2_with fail
  obtain ⟨V, hV⟩ : ∃ x, x = ((((w2.setCell ⟨w.heap.size, 0, none⟩ (.slice A1 l1.length c1)).setCell ⟨w.heap.size, 1, none⟩ (.bool s1)).setCell ⟨w.heap.size + 1, 0, none⟩ (.slice A2 l2.length c2)).setCell ⟨w.heap.size + 1, 1, none⟩ (.bool s2)) := ⟨_, rfl⟩
  rw [← hV]
  have hBV : Below w.heap.size w V := by rw [hV]; exact (by (repeat (first | with_reducible exact Below.refl _ _ | with_reducible assumption | with_reducible refine Below.setCell ?_ (by first | (simp; done) | omega | (simp; omega)) _ | with_reducible refine Below.alloc ?_ (by first | (simp; done) | omega | (simp; omega)) _ | with_reducible refine below_drewN ?_ _ | with_reducible refine Below.drew ?_)))
  have qa0 : V.cell? ⟨w.heap.size, 0, none⟩ = some (.slice A1 l1.length c1) := by rw [hV]; (repeat (first | with_reducible refine cset_eq' ?_ | with_reducible refine cset_ne (by first | (simp; done) | (simp; omega)) ?_ | with_reducible refine cset_ex ?_ | exact ⟨_, by assumption⟩ | assumption))
  have ja0 : V.frozen? ⟨w.heap.size, 0, none⟩ = false := by rw [hV]; (repeat (first | with_reducible refine fset ?_ | assumption))
  have qa1 : V.cell? ⟨w.heap.size, 1, none⟩ = some (.bool s1) := by rw [hV]; (repeat (first | with_reducible refine cset_eq' ?_ | with_reducible refine cset_ne (by first | (simp; done) | (simp; omega)) ?_ | with_reducible refine cset_ex ?_ | exact ⟨_, by assumption⟩ | assumption))
  have ja1 : V.frozen? ⟨w.heap.size, 1, none⟩ = false := by rw [hV]; (repeat (first | with_reducible refine fset ?_ | assumption))
  have qb0 : V.cell? ⟨w.heap.size + 1, 0, none⟩ = some (.slice A2 l2.length c2) := by rw [hV]; (repeat (first | with_reducible refine cset_eq' ?_ | with_reducible refine cset_ne (by first | (simp; done) | (simp; omega)) ?_ | with_reducible refine cset_ex ?_ | exact ⟨_, by assumption⟩ | assumption))
  have jb0 : V.frozen? ⟨w.heap.size + 1, 0, none⟩ = false := by rw [hV]; (repeat (first | with_reducible refine fset ?_ | assumption))
  have qb1 : V.cell? ⟨w.heap.size + 1, 1, none⟩ = some (.bool s2) := by rw [hV]; (repeat (first | with_reducible refine cset_eq' ?_ | with_reducible refine cset_ne (by first | (simp; done) | (simp; omega)) ?_ | with_reducible refine cset_ex ?_ | exact ⟨_, by assumption⟩ | assumption))
  have jb1 : V.frozen? ⟨w.heap.size + 1, 1, none⟩ = false := by rw [hV]; (repeat (first | with_reducible refine fset ?_ | assumption))
  have rV_0 : V.cell? ⟨w.heap.size + 2, 0, none⟩ = some (.slice none 0 0) := by rw [hV]; (repeat (first | with_reducible refine cset_eq' ?_ | with_reducible refine cset_ne (by first | (simp; done) | (simp; omega)) ?_ | with_reducible refine cset_ex ?_ | exact ⟨_, by assumption⟩ | assumption))
  have gV_0 : V.frozen? ⟨w.heap.size + 2, 0, none⟩ = false := by rw [hV]; (repeat (first | with_reducible refine fset ?_ | assumption))
  have rV_1 : V.cell? ⟨w.heap.size + 2, 1, none⟩ = some (.bool false) := by rw [hV]; (repeat (first | with_reducible refine cset_eq' ?_ | with_reducible refine cset_ne (by first | (simp; done) | (simp; omega)) ?_ | with_reducible refine cset_ex ?_ | exact ⟨_, by assumption⟩ | assumption))
  have gV_1 : V.frozen? ⟨w.heap.size + 2, 1, none⟩ = false := by rw [hV]; (repeat (first | with_reducible refine fset ?_ | assumption))
  have nV_0 : w.heap.size < V.heap.size := by rw [hV]; simp; omega
  have nV_1 : w.heap.size + 1 < V.heap.size := by rw [hV]; simp; omega
  have nV_2 : w.heap.size + 2 < V.heap.size := by rw [hV]; simp; omega
  replace O1 := hide (show RG w.heap.size (w.heap.size + 3) V A1 l1 by rw [hV]; (repeat (first | with_reducible exact O1.out | with_reducible refine RG.setc ?_ (by first | (simp; done) | omega | (simp; omega)) (by first | (simp; done) | omega | (simp; omega)) _ | with_reducible refine RG.allc ?_ _ | with_reducible refine RG.drew ?_ | with_reducible refine RG.drewN ?_ _)))
  replace O2 := hide (show RG w.heap.size (w.heap.size + 3) V A2 l2 by rw [hV]; (repeat (first | with_reducible exact O2.out | with_reducible refine RG.setc ?_ (by first | (simp; done) | omega | (simp; omega)) (by first | (simp; done) | omega | (simp; omega)) _ | with_reducible refine RG.allc ?_ _ | with_reducible refine RG.drew ?_ | with_reducible refine RG.drewN ?_ _)))
  have G1 : Gd l1 := by have h := cnt_gd (v := ⟨a, s⟩) YA.out; rw [← E1.out] at h; exact h
  have G2 : Gd l2 := by have h := cnt_gd (v := ⟨b, t⟩) YB.out; rw [← E2.out] at h; exact h
  have HG1 := hide G1
  have HG2 := hide G2
  have p1 := G1.pos
  have p2 := G2.pos
  have u1 := G1.le
  have u2 := G2.le
  clear hV G1 G2
  simp only [← E1.out, ← E2.out] at HR
  have k1 := hide fun W (hW : Below V.heap.size V W) => known_any A1 l1 c1 W (by omega) (O1.out.rd.below hW)
  have k2 := hide fun W (hW : Below V.heap.size V W) => known_any A2 l2 c2 W (by omega) (O2.out.rd.below hW)
  cases hk1 : kn l1
  · rw [hk1] at k1 HR
    clear hk1
    go_wp2_with fail
    refine (k1.out _ (by (repeat (first | with_reducible exact Below.refl _ _ | with_reducible assumption | with_reducible refine Below.setCell ?_ (by first | (simp; done) | omega | (simp; omega)) _ | with_reducible refine Below.alloc ?_ (by first | (simp; done) | omega | (simp; omega)) _ | with_reducible refine below_drewN ?_ _ | with_reducible refine Below.drew ?_)))).mono ?_
    rintro e w' ⟨rfl, rfl⟩
    go_wp2_with fail
    refine (unknown_any l1.length s1 _ p1 (by omega)).mono ?_
    rintro e w3 ⟨l3, s3, A3, c3, E3, rfl, C3, O3, hb⟩
    replace O1 := hide ((show RG w.heap.size (w.heap.size + 3) _ A1 l1 by (repeat (first | with_reducible exact O1.out | with_reducible refine RG.setc ?_ (by first | (simp; done) | omega | (simp; omega)) (by first | (simp; done) | omega | (simp; omega)) _ | with_reducible refine RG.allc ?_ _ | with_reducible refine RG.drew ?_ | with_reducible refine RG.drewN ?_ _))).kept hb)
    replace O2 := hide ((show RG w.heap.size (w.heap.size + 3) _ A2 l2 by (repeat (first | with_reducible exact O2.out | with_reducible refine RG.setc ?_ (by first | (simp; done) | omega | (simp; omega)) (by first | (simp; done) | omega | (simp; omega)) _ | with_reducible refine RG.allc ?_ _ | with_reducible refine RG.drew ?_ | with_reducible refine RG.drewN ?_ _))).kept hb)
    replace O3 := hide (O3.out.base (show w.heap.size + 3 ≤ _ by first | omega | (simp; omega) | (simp; done)))
    have hB3 : Below w.heap.size w w3 := Below.trans (by (repeat (first | with_reducible exact Below.refl _ _ | with_reducible assumption | with_reducible refine Below.setCell ?_ (by first | (simp; done) | omega | (simp; omega)) _ | with_reducible refine Below.alloc ?_ (by first | (simp; done) | omega | (simp; omega)) _ | with_reducible refine below_drewN ?_ _ | with_reducible refine Below.drew ?_))) (hb.mono (by first | omega | (simp; done) | (simp; omega)))
    obtain ⟨kc3, kf3⟩ := bcell hb
    have hz3 := hb.size
    (try simp at hz3)
    have n3_0 : w.heap.size < w3.heap.size := by omega
    have n3_1 : w.heap.size + 1 < w3.heap.size := by omega
    have n3_2 : w.heap.size + 2 < w3.heap.size := by omega
    have m3_0 : w3.cell? ⟨w.heap.size, 0, none⟩ = some (.slice A1 l1.length c1) := (kc3 _ _ (by first | assumption | (simp; done) | omega | (simp; omega))).trans (by first | assumption | (simp [go_sem]; done))
    have v3_0 : w3.frozen? ⟨w.heap.size, 0, none⟩ = false := (kf3 _ _ (by first | assumption | (simp; done) | omega | (simp; omega))).trans (by first | assumption | (simp [go_sem]; done))
    have m3_1 : w3.cell? ⟨w.heap.size, 1, none⟩ = some (.bool s1) := (kc3 _ _ (by first | assumption | (simp; done) | omega | (simp; omega))).trans (by first | assumption | (simp [go_sem]; done))
    have v3_1 : w3.frozen? ⟨w.heap.size, 1, none⟩ = false := (kf3 _ _ (by first | assumption | (simp; done) | omega | (simp; omega))).trans (by first | assumption | (simp [go_sem]; done))
    have m3_2 : w3.cell? ⟨w.heap.size + 1, 0, none⟩ = some (.slice A2 l2.length c2) := (kc3 _ _ (by first | assumption | (simp; done) | omega | (simp; omega))).trans (by first | assumption | (simp [go_sem]; done))
    have v3_2 : w3.frozen? ⟨w.heap.size + 1, 0, none⟩ = false := (kf3 _ _ (by first | assumption | (simp; done) | omega | (simp; omega))).trans (by first | assumption | (simp [go_sem]; done))
    have m3_3 : w3.cell? ⟨w.heap.size + 1, 1, none⟩ = some (.bool s2) := (kc3 _ _ (by first | assumption | (simp; done) | omega | (simp; omega))).trans (by first | assumption | (simp [go_sem]; done))
    have v3_3 : w3.frozen? ⟨w.heap.size + 1, 1, none⟩ = false := (kf3 _ _ (by first | assumption | (simp; done) | omega | (simp; omega))).trans (by first | assumption | (simp [go_sem]; done))
    have m3_4 : w3.cell? ⟨w.heap.size + 2, 0, none⟩ = some (.slice none 0 0) := (kc3 _ _ (by first | assumption | (simp; done) | omega | (simp; omega))).trans (by first | assumption | (simp [go_sem]; done))
    have v3_4 : w3.frozen? ⟨w.heap.size + 2, 0, none⟩ = false := (kf3 _ _ (by first | assumption | (simp; done) | omega | (simp; omega))).trans (by first | assumption | (simp [go_sem]; done))
    have m3_5 : w3.cell? ⟨w.heap.size + 2, 1, none⟩ = some (.bool false) := (kc3 _ _ (by first | assumption | (simp; done) | omega | (simp; omega))).trans (by first | assumption | (simp [go_sem]; done))
    have v3_5 : w3.frozen? ⟨w.heap.size + 2, 1, none⟩ = false := (kf3 _ _ (by first | assumption | (simp; done) | omega | (simp; omega))).trans (by first | assumption | (simp [go_sem]; done))
    clear kc3 kf3
    clear hb
    go_wp2
    refine bodyPost_ret (v := .agg #[.slice A3 l3.length c3, .bool s3]) (by simp [results, Tryz.results61, go_sem, *]) rfl ?_
    exact ⟨l3, s3, A3, c3, hide (E3.out.trans (by rw [HR.out]; simp)), rfl, C3, hide (OwQ.base (B := w.heap.size + 3) (by (repeat (first | with_reducible exact O3.out | with_reducible refine OwQ.far ?_ (by first | (simp; done) | omega | (simp; omega)) _ | with_reducible refine OwQ.allc ?_ _ | with_reducible refine OwQ.drew ?_ | with_reducible refine OwQ.drewN ?_ _))) (by omega)), by (repeat (first | with_reducible exact Below.refl _ _ | with_reducible assumption | with_reducible refine Below.setCell ?_ (by first | (simp; done) | omega | (simp; omega)) _ | with_reducible refine Below.alloc ?_ (by first | (simp; done) | omega | (simp; omega)) _ | with_reducible refine below_drewN ?_ _ | with_reducible refine Below.drew ?_))⟩
  · cases hk2 : kn l2
    · rw [hk1] at k1 HR
      rw [hk2] at k2 HR
      clear hk1 hk2
      go_wp2_with fail
      refine (k1.out _ (by (repeat (first | with_reducible exact Below.refl _ _ | with_reducible assumption | with_reducible refine Below.setCell ?_ (by first | (simp; done) | omega | (simp; omega)) _ | with_reducible refine Below.alloc ?_ (by first | (simp; done) | omega | (simp; omega)) _ | with_reducible refine below_drewN ?_ _ | with_reducible refine Below.drew ?_)))).mono ?_
      rintro e w' ⟨rfl, rfl⟩
      go_wp2_with fail
      refine (k2.out _ (by (repeat (first | with_reducible exact Below.refl _ _ | with_reducible assumption | with_reducible refine Below.setCell ?_ (by first | (simp; done) | omega | (simp; omega)) _ | with_reducible refine Below.alloc ?_ (by first | (simp; done) | omega | (simp; omega)) _ | with_reducible refine below_drewN ?_ _ | with_reducible refine Below.drew ?_)))).mono ?_
      rintro e w' ⟨rfl, rfl⟩
      go_wp2_with fail
      refine (unknown_any l1.length s1 _ p1 (by omega)).mono ?_
      rintro e w3 ⟨l3, s3, A3, c3, E3, rfl, C3, O3, hb⟩
      replace O1 := hide ((show RG w.heap.size (w.heap.size + 3) _ A1 l1 by (repeat (first | with_reducible exact O1.out | with_reducible refine RG.setc ?_ (by first | (simp; done) | omega | (simp; omega)) (by first | (simp; done) | omega | (simp; omega)) _ | with_reducible refine RG.allc ?_ _ | with_reducible refine RG.drew ?_ | with_reducible refine RG.drewN ?_ _))).kept hb)
      replace O2 := hide ((show RG w.heap.size (w.heap.size + 3) _ A2 l2 by (repeat (first | with_reducible exact O2.out | with_reducible refine RG.setc ?_ (by first | (simp; done) | omega | (simp; omega)) (by first | (simp; done) | omega | (simp; omega)) _ | with_reducible refine RG.allc ?_ _ | with_reducible refine RG.drew ?_ | with_reducible refine RG.drewN ?_ _))).kept hb)
      replace O3 := hide (O3.out.base (show w.heap.size + 3 ≤ _ by first | omega | (simp; omega) | (simp; done)))
      have hB3 : Below w.heap.size w w3 := Below.trans (by (repeat (first | with_reducible exact Below.refl _ _ | with_reducible assumption | with_reducible refine Below.setCell ?_ (by first | (simp; done) | omega | (simp; omega)) _ | with_reducible refine Below.alloc ?_ (by first | (simp; done) | omega | (simp; omega)) _ | with_reducible refine below_drewN ?_ _ | with_reducible refine Below.drew ?_))) (hb.mono (by first | omega | (simp; done) | (simp; omega)))
      obtain ⟨kc3, kf3⟩ := bcell hb
      have hz3 := hb.size
      (try simp at hz3)
      have n3_0 : w.heap.size < w3.heap.size := by omega
      have n3_1 : w.heap.size + 1 < w3.heap.size := by omega
      have n3_2 : w.heap.size + 2 < w3.heap.size := by omega
      have m3_0 : w3.cell? ⟨w.heap.size, 0, none⟩ = some (.slice A1 l1.length c1) := (kc3 _ _ (by first | assumption | (simp; done) | omega | (simp; omega))).trans (by first | assumption | (simp [go_sem]; done))
      have v3_0 : w3.frozen? ⟨w.heap.size, 0, none⟩ = false := (kf3 _ _ (by first | assumption | (simp; done) | omega | (simp; omega))).trans (by first | assumption | (simp [go_sem]; done))
      have m3_1 : w3.cell? ⟨w.heap.size, 1, none⟩ = some (.bool s1) := (kc3 _ _ (by first | assumption | (simp; done) | omega | (simp; omega))).trans (by first | assumption | (simp [go_sem]; done))
      have v3_1 : w3.frozen? ⟨w.heap.size, 1, none⟩ = false := (kf3 _ _ (by first | assumption | (simp; done) | omega | (simp; omega))).trans (by first | assumption | (simp [go_sem]; done))
      have m3_2 : w3.cell? ⟨w.heap.size + 1, 0, none⟩ = some (.slice A2 l2.length c2) := (kc3 _ _ (by first | assumption | (simp; done) | omega | (simp; omega))).trans (by first | assumption | (simp [go_sem]; done))
      have v3_2 : w3.frozen? ⟨w.heap.size + 1, 0, none⟩ = false := (kf3 _ _ (by first | assumption | (simp; done) | omega | (simp; omega))).trans (by first | assumption | (simp [go_sem]; done))
      have m3_3 : w3.cell? ⟨w.heap.size + 1, 1, none⟩ = some (.bool s2) := (kc3 _ _ (by first | assumption | (simp; done) | omega | (simp; omega))).trans (by first | assumption | (simp [go_sem]; done))
      have v3_3 : w3.frozen? ⟨w.heap.size + 1, 1, none⟩ = false := (kf3 _ _ (by first | assumption | (simp; done) | omega | (simp; omega))).trans (by first | assumption | (simp [go_sem]; done))
      have m3_4 : w3.cell? ⟨w.heap.size + 2, 0, none⟩ = some (.slice none 0 0) := (kc3 _ _ (by first | assumption | (simp; done) | omega | (simp; omega))).trans (by first | assumption | (simp [go_sem]; done))
      have v3_4 : w3.frozen? ⟨w.heap.size + 2, 0, none⟩ = false := (kf3 _ _ (by first | assumption | (simp; done) | omega | (simp; omega))).trans (by first | assumption | (simp [go_sem]; done))
      have m3_5 : w3.cell? ⟨w.heap.size + 2, 1, none⟩ = some (.bool false) := (kc3 _ _ (by first | assumption | (simp; done) | omega | (simp; omega))).trans (by first | assumption | (simp [go_sem]; done))
      have v3_5 : w3.frozen? ⟨w.heap.size + 2, 1, none⟩ = false := (kf3 _ _ (by first | assumption | (simp; done) | omega | (simp; omega))).trans (by first | assumption | (simp [go_sem]; done))
      clear kc3 kf3
      clear hb
      go_wp2
      refine bodyPost_ret (v := .agg #[.slice A3 l3.length c3, .bool s3]) (by simp [results, Tryz.results61, go_sem, *]) rfl ?_
      exact ⟨l3, s3, A3, c3, hide (E3.out.trans (by rw [HR.out]; simp)), rfl, C3, hide (OwQ.base (B := w.heap.size + 3) (by (repeat (first | with_reducible exact O3.out | with_reducible refine OwQ.far ?_ (by first | (simp; done) | omega | (simp; omega)) _ | with_reducible refine OwQ.allc ?_ _ | with_reducible refine OwQ.drew ?_ | with_reducible refine OwQ.drewN ?_ _))) (by omega)), by (repeat (first | with_reducible exact Below.refl _ _ | with_reducible assumption | with_reducible refine Below.setCell ?_ (by first | (simp; done) | omega | (simp; omega)) _ | with_reducible refine Below.alloc ?_ (by first | (simp; done) | omega | (simp; omega)) _ | with_reducible refine below_drewN ?_ _ | with_reducible refine Below.drew ?_))⟩
    · have HK := hide hk1
      rw [hk1] at k1 HR
      rw [hk2] at k2 HR
      clear hk1 hk2
      go_wp2_with fail
      refine (k1.out _ (by (repeat (first | with_reducible exact Below.refl _ _ | with_reducible assumption | with_reducible refine Below.setCell ?_ (by first | (simp; done) | omega | (simp; omega)) _ | with_reducible refine Below.alloc ?_ (by first | (simp; done) | omega | (simp; omega)) _ | with_reducible refine below_drewN ?_ _ | with_reducible refine Below.drew ?_)))).mono ?_
      rintro e w' ⟨rfl, rfl⟩
      go_wp2_with fail
      refine (k2.out _ (by (repeat (first | with_reducible exact Below.refl _ _ | with_reducible assumption | with_reducible refine Below.setCell ?_ (by first | (simp; done) | omega | (simp; omega)) _ | with_reducible refine Below.alloc ?_ (by first | (simp; done) | omega | (simp; omega)) _ | with_reducible refine below_drewN ?_ _ | with_reducible refine Below.drew ?_)))).mono ?_
      rintro e w' ⟨rfl, rfl⟩
      have hxt := hide fun W (hr : RQ W A2 l2) => extension_any A2 l2 c2 s2 W W p2 (by omega) hr
      obtain ⟨X, hX⟩ : ∃ X, X = xt ⟨l2, s2⟩ := ⟨_, rfl⟩
      rw [← hX] at hxt HR
      by_cases hx : X = 1
      · subst hx
        have hs : s2 = true := by
          cases s2
          · exact absurd hX (by simp [xt])
          · rfl
        have HS := hide hs
        have HTR := hide (tr_zero s1 HG1.out HK.out)
        clear hX hs
        obtain ⟨L, hL⟩ : ∃ L, L = vl l1 s1 := ⟨_, rfl⟩
        obtain ⟨T, hT⟩ : ∃ T, T = tr ⟨l1, s1⟩ := ⟨_, rfl⟩
        have hI := hide fun W (hr : RQ W A1 l1) => (vInt_any A1 l1 c1 s1 W (by omega) C1 hr HG1.out.by_).mono fun e w' (h : IntV ⟨l1, s1⟩ e ∧ Below W.heap.size W w') => And.intro (IntV.known HG1.out HK.out h.1) h.2
        have hTr := hide fun W (hr : RQ W A1 l1) (hW2 : Below w.heap.size w W) => truth_any A1 l1 c1 s1 W (by omega) C1 hr HG1.out.by_ (HT.out.kept hW2)
        rw [← hL] at hI HR HTR
        rw [← hT] at hTr HTR
        rw [HS.out] at HR
        clear hL hT
        go_wp2_with fail
        refine (hxt.out _ (by refine RG.rd (B0 := w.heap.size) (B1 := w.heap.size + 3) ?_; (repeat (first | with_reducible exact O2.out | with_reducible refine RG.setc ?_ (by first | (simp; done) | omega | (simp; omega)) (by first | (simp; done) | omega | (simp; omega)) _ | with_reducible refine RG.allc ?_ _ | with_reducible refine RG.drew ?_ | with_reducible refine RG.drewN ?_ _)))).mono ?_
        rintro e w3 ⟨rfl, hb⟩
        replace O1 := hide ((show RG w.heap.size (w.heap.size + 3) _ A1 l1 by (repeat (first | with_reducible exact O1.out | with_reducible refine RG.setc ?_ (by first | (simp; done) | omega | (simp; omega)) (by first | (simp; done) | omega | (simp; omega)) _ | with_reducible refine RG.allc ?_ _ | with_reducible refine RG.drew ?_ | with_reducible refine RG.drewN ?_ _))).kept hb)
        replace O2 := hide ((show RG w.heap.size (w.heap.size + 3) _ A2 l2 by (repeat (first | with_reducible exact O2.out | with_reducible refine RG.setc ?_ (by first | (simp; done) | omega | (simp; omega)) (by first | (simp; done) | omega | (simp; omega)) _ | with_reducible refine RG.allc ?_ _ | with_reducible refine RG.drew ?_ | with_reducible refine RG.drewN ?_ _))).kept hb)
        have hB3 : Below w.heap.size w w3 := Below.trans (by (repeat (first | with_reducible exact Below.refl _ _ | with_reducible assumption | with_reducible refine Below.setCell ?_ (by first | (simp; done) | omega | (simp; omega)) _ | with_reducible refine Below.alloc ?_ (by first | (simp; done) | omega | (simp; omega)) _ | with_reducible refine below_drewN ?_ _ | with_reducible refine Below.drew ?_))) (hb.mono (by first | omega | (simp; done) | (simp; omega)))
        obtain ⟨kc3, kf3⟩ := bcell hb
        have hz3 := hb.size
        (try simp at hz3)
        have n3_0 : w.heap.size < w3.heap.size := by omega
        have n3_1 : w.heap.size + 1 < w3.heap.size := by omega
        have n3_2 : w.heap.size + 2 < w3.heap.size := by omega
        have m3_0 : w3.cell? ⟨w.heap.size, 0, none⟩ = some (.slice A1 l1.length c1) := (kc3 _ _ (by first | assumption | (simp; done) | omega | (simp; omega))).trans (by first | assumption | (simp [go_sem]; done))
        have v3_0 : w3.frozen? ⟨w.heap.size, 0, none⟩ = false := (kf3 _ _ (by first | assumption | (simp; done) | omega | (simp; omega))).trans (by first | assumption | (simp [go_sem]; done))
        have m3_1 : w3.cell? ⟨w.heap.size, 1, none⟩ = some (.bool s1) := (kc3 _ _ (by first | assumption | (simp; done) | omega | (simp; omega))).trans (by first | assumption | (simp [go_sem]; done))
        have v3_1 : w3.frozen? ⟨w.heap.size, 1, none⟩ = false := (kf3 _ _ (by first | assumption | (simp; done) | omega | (simp; omega))).trans (by first | assumption | (simp [go_sem]; done))
        have m3_2 : w3.cell? ⟨w.heap.size + 1, 0, none⟩ = some (.slice A2 l2.length c2) := (kc3 _ _ (by first | assumption | (simp; done) | omega | (simp; omega))).trans (by first | assumption | (simp [go_sem]; done))
        have v3_2 : w3.frozen? ⟨w.heap.size + 1, 0, none⟩ = false := (kf3 _ _ (by first | assumption | (simp; done) | omega | (simp; omega))).trans (by first | assumption | (simp [go_sem]; done))
        have m3_3 : w3.cell? ⟨w.heap.size + 1, 1, none⟩ = some (.bool s2) := (kc3 _ _ (by first | assumption | (simp; done) | omega | (simp; omega))).trans (by first | assumption | (simp [go_sem]; done))
        have v3_3 : w3.frozen? ⟨w.heap.size + 1, 1, none⟩ = false := (kf3 _ _ (by first | assumption | (simp; done) | omega | (simp; omega))).trans (by first | assumption | (simp [go_sem]; done))
        have m3_4 : w3.cell? ⟨w.heap.size + 2, 0, none⟩ = some (.slice none 0 0) := (kc3 _ _ (by first | assumption | (simp; done) | omega | (simp; omega))).trans (by first | assumption | (simp [go_sem]; done))
        have v3_4 : w3.frozen? ⟨w.heap.size + 2, 0, none⟩ = false := (kf3 _ _ (by first | assumption | (simp; done) | omega | (simp; omega))).trans (by first | assumption | (simp [go_sem]; done))
        have m3_5 : w3.cell? ⟨w.heap.size + 2, 1, none⟩ = some (.bool false) := (kc3 _ _ (by first | assumption | (simp; done) | omega | (simp; omega))).trans (by first | assumption | (simp [go_sem]; done))
        have v3_5 : w3.frozen? ⟨w.heap.size + 2, 1, none⟩ = false := (kf3 _ _ (by first | assumption | (simp; done) | omega | (simp; omega))).trans (by first | assumption | (simp [go_sem]; done))
        clear kc3 kf3
        clear hb
        go_wp2_with fail
        refine (hI.out _ (by refine RG.rd (B0 := w.heap.size) (B1 := w.heap.size + 3) ?_; (repeat (first | with_reducible exact O1.out | with_reducible refine RG.setc ?_ (by first | (simp; done) | omega | (simp; omega)) (by first | (simp; done) | omega | (simp; omega)) _ | with_reducible refine RG.allc ?_ _ | with_reducible refine RG.drew ?_ | with_reducible refine RG.drewN ?_ _)))).mono ?_
        rintro e w4 ⟨hK, hb⟩
        replace O1 := hide ((show RG w.heap.size (w.heap.size + 3) _ A1 l1 by (repeat (first | with_reducible exact O1.out | with_reducible refine RG.setc ?_ (by first | (simp; done) | omega | (simp; omega)) (by first | (simp; done) | omega | (simp; omega)) _ | with_reducible refine RG.allc ?_ _ | with_reducible refine RG.drew ?_ | with_reducible refine RG.drewN ?_ _))).kept hb)
        replace O2 := hide ((show RG w.heap.size (w.heap.size + 3) _ A2 l2 by (repeat (first | with_reducible exact O2.out | with_reducible refine RG.setc ?_ (by first | (simp; done) | omega | (simp; omega)) (by first | (simp; done) | omega | (simp; omega)) _ | with_reducible refine RG.allc ?_ _ | with_reducible refine RG.drew ?_ | with_reducible refine RG.drewN ?_ _))).kept hb)
        have hB4 : Below w.heap.size w w4 := Below.trans (by (repeat (first | with_reducible exact Below.refl _ _ | with_reducible assumption | with_reducible refine Below.setCell ?_ (by first | (simp; done) | omega | (simp; omega)) _ | with_reducible refine Below.alloc ?_ (by first | (simp; done) | omega | (simp; omega)) _ | with_reducible refine below_drewN ?_ _ | with_reducible refine Below.drew ?_))) (hb.mono (by first | omega | (simp; done) | (simp; omega)))
        obtain ⟨kc4, kf4⟩ := bcell hb
        have hz4 := hb.size
        (try simp at hz4)
        have n4_0 : w.heap.size < w4.heap.size := by omega
        have n4_1 : w.heap.size + 1 < w4.heap.size := by omega
        have n4_2 : w.heap.size + 2 < w4.heap.size := by omega
        have m4_0 : w4.cell? ⟨w.heap.size, 0, none⟩ = some (.slice A1 l1.length c1) := (kc4 _ _ (by first | assumption | (simp; done) | omega | (simp; omega))).trans (by first | assumption | (simp [go_sem]; done))
        have v4_0 : w4.frozen? ⟨w.heap.size, 0, none⟩ = false := (kf4 _ _ (by first | assumption | (simp; done) | omega | (simp; omega))).trans (by first | assumption | (simp [go_sem]; done))
        have m4_1 : w4.cell? ⟨w.heap.size, 1, none⟩ = some (.bool s1) := (kc4 _ _ (by first | assumption | (simp; done) | omega | (simp; omega))).trans (by first | assumption | (simp [go_sem]; done))
        have v4_1 : w4.frozen? ⟨w.heap.size, 1, none⟩ = false := (kf4 _ _ (by first | assumption | (simp; done) | omega | (simp; omega))).trans (by first | assumption | (simp [go_sem]; done))
        have m4_2 : w4.cell? ⟨w.heap.size + 1, 0, none⟩ = some (.slice A2 l2.length c2) := (kc4 _ _ (by first | assumption | (simp; done) | omega | (simp; omega))).trans (by first | assumption | (simp [go_sem]; done))
        have v4_2 : w4.frozen? ⟨w.heap.size + 1, 0, none⟩ = false := (kf4 _ _ (by first | assumption | (simp; done) | omega | (simp; omega))).trans (by first | assumption | (simp [go_sem]; done))
        have m4_3 : w4.cell? ⟨w.heap.size + 1, 1, none⟩ = some (.bool s2) := (kc4 _ _ (by first | assumption | (simp; done) | omega | (simp; omega))).trans (by first | assumption | (simp [go_sem]; done))
        have v4_3 : w4.frozen? ⟨w.heap.size + 1, 1, none⟩ = false := (kf4 _ _ (by first | assumption | (simp; done) | omega | (simp; omega))).trans (by first | assumption | (simp [go_sem]; done))
        have m4_4 : w4.cell? ⟨w.heap.size + 2, 0, none⟩ = some (.slice none 0 0) := (kc4 _ _ (by first | assumption | (simp; done) | omega | (simp; omega))).trans (by first | assumption | (simp [go_sem]; done))
        have v4_4 : w4.frozen? ⟨w.heap.size + 2, 0, none⟩ = false := (kf4 _ _ (by first | assumption | (simp; done) | omega | (simp; omega))).trans (by first | assumption | (simp [go_sem]; done))
        have m4_5 : w4.cell? ⟨w.heap.size + 2, 1, none⟩ = some (.bool false) := (kc4 _ _ (by first | assumption | (simp; done) | omega | (simp; omega))).trans (by first | assumption | (simp [go_sem]; done))
        have v4_5 : w4.frozen? ⟨w.heap.size + 2, 1, none⟩ = false := (kf4 _ _ (by first | assumption | (simp; done) | omega | (simp; omega))).trans (by first | assumption | (simp [go_sem]; done))
        clear kc4 kf4
        clear hb
        rcases hK with ⟨rfl, hlo, hhi⟩ | ⟨rfl, h0, h1, hm⟩
        · by_cases h0 : L = 0
          · have t0 : T = 0 := HTR.out.2 h0
            subst t0
            have HL := hide h0
            clear h0 hlo hhi
            go_wp2_with fail
            refine (hTr.out _ (by refine RG.rd (B0 := w.heap.size) (B1 := w.heap.size + 3) ?_; (repeat (first | with_reducible exact O1.out | with_reducible refine RG.setc ?_ (by first | (simp; done) | omega | (simp; omega)) (by first | (simp; done) | omega | (simp; omega)) _ | with_reducible refine RG.allc ?_ _ | with_reducible refine RG.drew ?_ | with_reducible refine RG.drewN ?_ _))) (by (repeat (first | with_reducible exact Below.refl _ _ | with_reducible assumption | with_reducible refine Below.setCell ?_ (by first | (simp; done) | omega | (simp; omega)) _ | with_reducible refine Below.alloc ?_ (by first | (simp; done) | omega | (simp; omega)) _ | with_reducible refine below_drewN ?_ _ | with_reducible refine Below.drew ?_)))).mono ?_
            rintro e w5 ⟨rfl, hb⟩
            replace O1 := hide ((show RG w.heap.size (w.heap.size + 3) _ A1 l1 by (repeat (first | with_reducible exact O1.out | with_reducible refine RG.setc ?_ (by first | (simp; done) | omega | (simp; omega)) (by first | (simp; done) | omega | (simp; omega)) _ | with_reducible refine RG.allc ?_ _ | with_reducible refine RG.drew ?_ | with_reducible refine RG.drewN ?_ _))).kept hb)
            replace O2 := hide ((show RG w.heap.size (w.heap.size + 3) _ A2 l2 by (repeat (first | with_reducible exact O2.out | with_reducible refine RG.setc ?_ (by first | (simp; done) | omega | (simp; omega)) (by first | (simp; done) | omega | (simp; omega)) _ | with_reducible refine RG.allc ?_ _ | with_reducible refine RG.drew ?_ | with_reducible refine RG.drewN ?_ _))).kept hb)
            have hB5 : Below w.heap.size w w5 := Below.trans (by (repeat (first | with_reducible exact Below.refl _ _ | with_reducible assumption | with_reducible refine Below.setCell ?_ (by first | (simp; done) | omega | (simp; omega)) _ | with_reducible refine Below.alloc ?_ (by first | (simp; done) | omega | (simp; omega)) _ | with_reducible refine below_drewN ?_ _ | with_reducible refine Below.drew ?_))) (hb.mono (by first | omega | (simp; done) | (simp; omega)))
            obtain ⟨kc5, kf5⟩ := bcell hb
            have hz5 := hb.size
            (try simp at hz5)
            have n5_0 : w.heap.size < w5.heap.size := by omega
            have n5_1 : w.heap.size + 1 < w5.heap.size := by omega
            have n5_2 : w.heap.size + 2 < w5.heap.size := by omega
            have m5_0 : w5.cell? ⟨w.heap.size, 0, none⟩ = some (.slice A1 l1.length c1) := (kc5 _ _ (by first | assumption | (simp; done) | omega | (simp; omega))).trans (by first | assumption | (simp [go_sem]; done))
            have v5_0 : w5.frozen? ⟨w.heap.size, 0, none⟩ = false := (kf5 _ _ (by first | assumption | (simp; done) | omega | (simp; omega))).trans (by first | assumption | (simp [go_sem]; done))
            have m5_1 : w5.cell? ⟨w.heap.size, 1, none⟩ = some (.bool s1) := (kc5 _ _ (by first | assumption | (simp; done) | omega | (simp; omega))).trans (by first | assumption | (simp [go_sem]; done))
            have v5_1 : w5.frozen? ⟨w.heap.size, 1, none⟩ = false := (kf5 _ _ (by first | assumption | (simp; done) | omega | (simp; omega))).trans (by first | assumption | (simp [go_sem]; done))
            have m5_2 : w5.cell? ⟨w.heap.size + 1, 0, none⟩ = some (.slice A2 l2.length c2) := (kc5 _ _ (by first | assumption | (simp; done) | omega | (simp; omega))).trans (by first | assumption | (simp [go_sem]; done))
            have v5_2 : w5.frozen? ⟨w.heap.size + 1, 0, none⟩ = false := (kf5 _ _ (by first | assumption | (simp; done) | omega | (simp; omega))).trans (by first | assumption | (simp [go_sem]; done))
            have m5_3 : w5.cell? ⟨w.heap.size + 1, 1, none⟩ = some (.bool s2) := (kc5 _ _ (by first | assumption | (simp; done) | omega | (simp; omega))).trans (by first | assumption | (simp [go_sem]; done))
            have v5_3 : w5.frozen? ⟨w.heap.size + 1, 1, none⟩ = false := (kf5 _ _ (by first | assumption | (simp; done) | omega | (simp; omega))).trans (by first | assumption | (simp [go_sem]; done))
            have m5_4 : w5.cell? ⟨w.heap.size + 2, 0, none⟩ = some (.slice none 0 0) := (kc5 _ _ (by first | assumption | (simp; done) | omega | (simp; omega))).trans (by first | assumption | (simp [go_sem]; done))
            have v5_4 : w5.frozen? ⟨w.heap.size + 2, 0, none⟩ = false := (kf5 _ _ (by first | assumption | (simp; done) | omega | (simp; omega))).trans (by first | assumption | (simp [go_sem]; done))
            have m5_5 : w5.cell? ⟨w.heap.size + 2, 1, none⟩ = some (.bool false) := (kc5 _ _ (by first | assumption | (simp; done) | omega | (simp; omega))).trans (by first | assumption | (simp [go_sem]; done))
            have v5_5 : w5.frozen? ⟨w.heap.size + 2, 1, none⟩ = false := (kf5 _ _ (by first | assumption | (simp; done) | omega | (simp; omega))).trans (by first | assumption | (simp [go_sem]; done))
            clear kc5 kf5
            clear hb
            go_wp2_with fail
            refine (unknown_any l1.length s1 _ p1 (by omega)).mono ?_
            rintro e w6 ⟨l3, s3, A3, c3, E3, rfl, C3, O3, hb⟩
            replace O1 := hide ((show RG w.heap.size (w.heap.size + 3) _ A1 l1 by (repeat (first | with_reducible exact O1.out | with_reducible refine RG.setc ?_ (by first | (simp; done) | omega | (simp; omega)) (by first | (simp; done) | omega | (simp; omega)) _ | with_reducible refine RG.allc ?_ _ | with_reducible refine RG.drew ?_ | with_reducible refine RG.drewN ?_ _))).kept hb)
            replace O2 := hide ((show RG w.heap.size (w.heap.size + 3) _ A2 l2 by (repeat (first | with_reducible exact O2.out | with_reducible refine RG.setc ?_ (by first | (simp; done) | omega | (simp; omega)) (by first | (simp; done) | omega | (simp; omega)) _ | with_reducible refine RG.allc ?_ _ | with_reducible refine RG.drew ?_ | with_reducible refine RG.drewN ?_ _))).kept hb)
            replace O3 := hide (O3.out.base (show w.heap.size + 3 ≤ _ by first | omega | (simp; omega) | (simp; done)))
            have hB6 : Below w.heap.size w w6 := Below.trans (by (repeat (first | with_reducible exact Below.refl _ _ | with_reducible assumption | with_reducible refine Below.setCell ?_ (by first | (simp; done) | omega | (simp; omega)) _ | with_reducible refine Below.alloc ?_ (by first | (simp; done) | omega | (simp; omega)) _ | with_reducible refine below_drewN ?_ _ | with_reducible refine Below.drew ?_))) (hb.mono (by first | omega | (simp; done) | (simp; omega)))
            obtain ⟨kc6, kf6⟩ := bcell hb
            have hz6 := hb.size
            (try simp at hz6)
            have n6_0 : w.heap.size < w6.heap.size := by omega
            have n6_1 : w.heap.size + 1 < w6.heap.size := by omega
            have n6_2 : w.heap.size + 2 < w6.heap.size := by omega
            have m6_0 : w6.cell? ⟨w.heap.size, 0, none⟩ = some (.slice A1 l1.length c1) := (kc6 _ _ (by first | assumption | (simp; done) | omega | (simp; omega))).trans (by first | assumption | (simp [go_sem]; done))
            have v6_0 : w6.frozen? ⟨w.heap.size, 0, none⟩ = false := (kf6 _ _ (by first | assumption | (simp; done) | omega | (simp; omega))).trans (by first | assumption | (simp [go_sem]; done))
            have m6_1 : w6.cell? ⟨w.heap.size, 1, none⟩ = some (.bool s1) := (kc6 _ _ (by first | assumption | (simp; done) | omega | (simp; omega))).trans (by first | assumption | (simp [go_sem]; done))
            have v6_1 : w6.frozen? ⟨w.heap.size, 1, none⟩ = false := (kf6 _ _ (by first | assumption | (simp; done) | omega | (simp; omega))).trans (by first | assumption | (simp [go_sem]; done))
            have m6_2 : w6.cell? ⟨w.heap.size + 1, 0, none⟩ = some (.slice A2 l2.length c2) := (kc6 _ _ (by first | assumption | (simp; done) | omega | (simp; omega))).trans (by first | assumption | (simp [go_sem]; done))
            have v6_2 : w6.frozen? ⟨w.heap.size + 1, 0, none⟩ = false := (kf6 _ _ (by first | assumption | (simp; done) | omega | (simp; omega))).trans (by first | assumption | (simp [go_sem]; done))
            have m6_3 : w6.cell? ⟨w.heap.size + 1, 1, none⟩ = some (.bool s2) := (kc6 _ _ (by first | assumption | (simp; done) | omega | (simp; omega))).trans (by first | assumption | (simp [go_sem]; done))
            have v6_3 : w6.frozen? ⟨w.heap.size + 1, 1, none⟩ = false := (kf6 _ _ (by first | assumption | (simp; done) | omega | (simp; omega))).trans (by first | assumption | (simp [go_sem]; done))
            have m6_4 : w6.cell? ⟨w.heap.size + 2, 0, none⟩ = some (.slice none 0 0) := (kc6 _ _ (by first | assumption | (simp; done) | omega | (simp; omega))).trans (by first | assumption | (simp [go_sem]; done))
            have v6_4 : w6.frozen? ⟨w.heap.size + 2, 0, none⟩ = false := (kf6 _ _ (by first | assumption | (simp; done) | omega | (simp; omega))).trans (by first | assumption | (simp [go_sem]; done))
            have m6_5 : w6.cell? ⟨w.heap.size + 2, 1, none⟩ = some (.bool false) := (kc6 _ _ (by first | assumption | (simp; done) | omega | (simp; omega))).trans (by first | assumption | (simp [go_sem]; done))
            have v6_5 : w6.frozen? ⟨w.heap.size + 2, 1, none⟩ = false := (kf6 _ _ (by first | assumption | (simp; done) | omega | (simp; omega))).trans (by first | assumption | (simp [go_sem]; done))
            clear kc6 kf6
            clear hb
            go_wp2
            refine bodyPost_ret (v := .agg #[.slice A3 l3.length c3, .bool s3]) (by simp [results, Tryz.results61, go_sem, *]) rfl ?_
            exact ⟨l3, s3, A3, c3, hide (E3.out.trans (by rw [HR.out, HL.out]; simp)), rfl, C3, hide (OwQ.base (B := w.heap.size + 3) (by (repeat (first | with_reducible exact O3.out | with_reducible refine OwQ.far ?_ (by first | (simp; done) | omega | (simp; omega)) _ | with_reducible refine OwQ.allc ?_ _ | with_reducible refine OwQ.drew ?_ | with_reducible refine OwQ.drewN ?_ _))) (by omega)), by (repeat (first | with_reducible exact Below.refl _ _ | with_reducible assumption | with_reducible refine Below.setCell ?_ (by first | (simp; done) | omega | (simp; omega)) _ | with_reducible refine Below.alloc ?_ (by first | (simp; done) | omega | (simp; omega)) _ | with_reducible refine below_drewN ?_ _ | with_reducible refine Below.drew ?_))⟩
          · have t0 : (T == 0) = false := by simpa using fun h => h0 (HTR.out.1 h)
            have H0 := hide h0
            clear h0
            by_cases h1 : L = 1
            · subst h1
              clear hlo hhi
              go_wp2_with fail
              refine (hTr.out _ (by refine RG.rd (B0 := w.heap.size) (B1 := w.heap.size + 3) ?_; (repeat (first | with_reducible exact O1.out | with_reducible refine RG.setc ?_ (by first | (simp; done) | omega | (simp; omega)) (by first | (simp; done) | omega | (simp; omega)) _ | with_reducible refine RG.allc ?_ _ | with_reducible refine RG.drew ?_ | with_reducible refine RG.drewN ?_ _))) (by (repeat (first | with_reducible exact Below.refl _ _ | with_reducible assumption | with_reducible refine Below.setCell ?_ (by first | (simp; done) | omega | (simp; omega)) _ | with_reducible refine Below.alloc ?_ (by first | (simp; done) | omega | (simp; omega)) _ | with_reducible refine below_drewN ?_ _ | with_reducible refine Below.drew ?_)))).mono ?_
              rintro e w5 ⟨rfl, hb⟩
              replace O1 := hide ((show RG w.heap.size (w.heap.size + 3) _ A1 l1 by (repeat (first | with_reducible exact O1.out | with_reducible refine RG.setc ?_ (by first | (simp; done) | omega | (simp; omega)) (by first | (simp; done) | omega | (simp; omega)) _ | with_reducible refine RG.allc ?_ _ | with_reducible refine RG.drew ?_ | with_reducible refine RG.drewN ?_ _))).kept hb)
              replace O2 := hide ((show RG w.heap.size (w.heap.size + 3) _ A2 l2 by (repeat (first | with_reducible exact O2.out | with_reducible refine RG.setc ?_ (by first | (simp; done) | omega | (simp; omega)) (by first | (simp; done) | omega | (simp; omega)) _ | with_reducible refine RG.allc ?_ _ | with_reducible refine RG.drew ?_ | with_reducible refine RG.drewN ?_ _))).kept hb)
              have hB5 : Below w.heap.size w w5 := Below.trans (by (repeat (first | with_reducible exact Below.refl _ _ | with_reducible assumption | with_reducible refine Below.setCell ?_ (by first | (simp; done) | omega | (simp; omega)) _ | with_reducible refine Below.alloc ?_ (by first | (simp; done) | omega | (simp; omega)) _ | with_reducible refine below_drewN ?_ _ | with_reducible refine Below.drew ?_))) (hb.mono (by first | omega | (simp; done) | (simp; omega)))
              obtain ⟨kc5, kf5⟩ := bcell hb
              have hz5 := hb.size
              (try simp at hz5)
              have n5_0 : w.heap.size < w5.heap.size := by omega
              have n5_1 : w.heap.size + 1 < w5.heap.size := by omega
              have n5_2 : w.heap.size + 2 < w5.heap.size := by omega
              have m5_0 : w5.cell? ⟨w.heap.size, 0, none⟩ = some (.slice A1 l1.length c1) := (kc5 _ _ (by first | assumption | (simp; done) | omega | (simp; omega))).trans (by first | assumption | (simp [go_sem]; done))
              have v5_0 : w5.frozen? ⟨w.heap.size, 0, none⟩ = false := (kf5 _ _ (by first | assumption | (simp; done) | omega | (simp; omega))).trans (by first | assumption | (simp [go_sem]; done))
              have m5_1 : w5.cell? ⟨w.heap.size, 1, none⟩ = some (.bool s1) := (kc5 _ _ (by first | assumption | (simp; done) | omega | (simp; omega))).trans (by first | assumption | (simp [go_sem]; done))
              have v5_1 : w5.frozen? ⟨w.heap.size, 1, none⟩ = false := (kf5 _ _ (by first | assumption | (simp; done) | omega | (simp; omega))).trans (by first | assumption | (simp [go_sem]; done))
              have m5_2 : w5.cell? ⟨w.heap.size + 1, 0, none⟩ = some (.slice A2 l2.length c2) := (kc5 _ _ (by first | assumption | (simp; done) | omega | (simp; omega))).trans (by first | assumption | (simp [go_sem]; done))
              have v5_2 : w5.frozen? ⟨w.heap.size + 1, 0, none⟩ = false := (kf5 _ _ (by first | assumption | (simp; done) | omega | (simp; omega))).trans (by first | assumption | (simp [go_sem]; done))
              have m5_3 : w5.cell? ⟨w.heap.size + 1, 1, none⟩ = some (.bool s2) := (kc5 _ _ (by first | assumption | (simp; done) | omega | (simp; omega))).trans (by first | assumption | (simp [go_sem]; done))
              have v5_3 : w5.frozen? ⟨w.heap.size + 1, 1, none⟩ = false := (kf5 _ _ (by first | assumption | (simp; done) | omega | (simp; omega))).trans (by first | assumption | (simp [go_sem]; done))
              have m5_4 : w5.cell? ⟨w.heap.size + 2, 0, none⟩ = some (.slice none 0 0) := (kc5 _ _ (by first | assumption | (simp; done) | omega | (simp; omega))).trans (by first | assumption | (simp [go_sem]; done))
              have v5_4 : w5.frozen? ⟨w.heap.size + 2, 0, none⟩ = false := (kf5 _ _ (by first | assumption | (simp; done) | omega | (simp; omega))).trans (by first | assumption | (simp [go_sem]; done))
              have m5_5 : w5.cell? ⟨w.heap.size + 2, 1, none⟩ = some (.bool false) := (kc5 _ _ (by first | assumption | (simp; done) | omega | (simp; omega))).trans (by first | assumption | (simp [go_sem]; done))
              have v5_5 : w5.frozen? ⟨w.heap.size + 2, 1, none⟩ = false := (kf5 _ _ (by first | assumption | (simp; done) | omega | (simp; omega))).trans (by first | assumption | (simp [go_sem]; done))
              clear kc5 kf5
              clear hb
              go_wp2_with fail
              refine region_anyT (S := fun wS => Below w5.heap.size w5 wS) (n := 10) (by kernel_rfl) (Below.refl _ _).drew (fun hS inv => ?_)
              refine anyT_take (i := 0) (oi := _) (v := Value.pointer (some ⟨w.heap.size, 0, none⟩)) rfl (by kernel_rfl) (by kernel_rfl) (by kernel_rfl) (by decide) (by decide) (by kernel_rfl) (by kernel_rfl) inv (fun _ _ _ h => h) (Or.inl ⟨by kernel_rfl, ?_⟩) hS (fun inv => ?_)
              · intro wz hSw
                first | kernel_rfl | go_simp
              (try simp only [Act.put, List.getElem_toArray, List.getElem_cons_zero, List.getElem_cons_succ, List.setIfInBounds_toArray, List.set_cons_zero, List.set_cons_succ])
              refine anyT_take (i := 1) (oi := _) (v := Value.slice A1 l1.length c1) rfl (by kernel_rfl) (by kernel_rfl) (by kernel_rfl) (by decide) (by decide) (by kernel_rfl) (by kernel_rfl) inv (fun _ _ _ h => h) (Or.inl ⟨by kernel_rfl, ?_⟩) hS (fun inv => ?_)
              · intro wz hSw
                have hk0 := (hSw : Below _ _ _).cell (p := ⟨w.heap.size, 0, none⟩) (by first | assumption | (simp; done) | omega | (simp; omega)); go_simp
              (try simp only [Act.put, List.getElem_toArray, List.getElem_cons_zero, List.getElem_cons_succ, List.setIfInBounds_toArray, List.set_cons_zero, List.set_cons_succ])
              refine anyT_take (i := 3) (oi := _) (v := Value.pointer (some ⟨w.heap.size + 1, 0, none⟩)) rfl (by kernel_rfl) (by kernel_rfl) (by kernel_rfl) (by decide) (by decide) (by kernel_rfl) (by kernel_rfl) inv (fun _ _ _ h => h) (Or.inl ⟨by kernel_rfl, ?_⟩) hS (fun inv => ?_)
              · intro wz hSw
                first | kernel_rfl | go_simp
              (try simp only [Act.put, List.getElem_toArray, List.getElem_cons_zero, List.getElem_cons_succ, List.setIfInBounds_toArray, List.set_cons_zero, List.set_cons_succ])
              refine anyT_take (i := 4) (oi := _) (v := Value.slice A2 l2.length c2) rfl (by kernel_rfl) (by kernel_rfl) (by kernel_rfl) (by decide) (by decide) (by kernel_rfl) (by kernel_rfl) inv (fun _ _ _ h => h) (Or.inl ⟨by kernel_rfl, ?_⟩) hS (fun inv => ?_)
              · intro wz hSw
                have hk0 := (hSw : Below _ _ _).cell (p := ⟨w.heap.size + 1, 0, none⟩) (by first | assumption | (simp; done) | omega | (simp; omega)); go_simp
              (try simp only [Act.put, List.getElem_toArray, List.getElem_cons_zero, List.getElem_cons_succ, List.setIfInBounds_toArray, List.set_cons_zero, List.set_cons_succ])
              refine anyT_take (i := 7) (oi := _) (v := Value.pointer (some ⟨w.heap.size, 1, none⟩)) rfl (by kernel_rfl) (by kernel_rfl) (by kernel_rfl) (by decide) (by decide) (by kernel_rfl) (by kernel_rfl) inv (fun _ _ _ h => h) (Or.inl ⟨by kernel_rfl, ?_⟩) hS (fun inv => ?_)
              · intro wz hSw
                first | kernel_rfl | go_simp
              (try simp only [Act.put, List.getElem_toArray, List.getElem_cons_zero, List.getElem_cons_succ, List.setIfInBounds_toArray, List.set_cons_zero, List.set_cons_succ])
              refine anyT_take (i := 8) (oi := _) (v := Value.bool s1) rfl (by kernel_rfl) (by kernel_rfl) (by kernel_rfl) (by decide) (by decide) (by kernel_rfl) (by kernel_rfl) inv (fun _ _ _ h => h) (Or.inl ⟨by kernel_rfl, ?_⟩) hS (fun inv => ?_)
              · intro wz hSw
                have hk0 := (hSw : Below _ _ _).cell (p := ⟨w.heap.size, 1, none⟩) (by first | assumption | (simp; done) | omega | (simp; omega)); go_simp
              (try simp only [Act.put, List.getElem_toArray, List.getElem_cons_zero, List.getElem_cons_succ, List.setIfInBounds_toArray, List.set_cons_zero, List.set_cons_succ])
              refine anyT_ready (rs := [2]) (by kernel_rfl) (by simp) ?_
              refine ReadyT.head (o := _) rfl (by decide) (by kernel_rfl) inv (fun K hK => ?_) ReadyT.nil
              go_simp
              refine (number_q A1 l1 c1 _ (by omega) (by refine RG.rd (B0 := w.heap.size) (B1 := w.heap.size + 3) ?_; (repeat (first | with_reducible exact O1.out | with_reducible refine RG.setc ?_ (by first | (simp; done) | omega | (simp; omega)) (by first | (simp; done) | omega | (simp; omega)) _ | with_reducible refine RG.allc ?_ _ | with_reducible refine RG.drew ?_ | with_reducible refine RG.drewN ?_ _)))).mono ?_
              rintro e w6 ⟨lm, Am, cm, Em, rfl, Cm, Om, hb⟩
              go_wp2_with fail
              refine hK.out _ _ ?_ (fun hS inv => ?_)
              · exact (hS : Below w5.heap.size w5 _).trans (hb.mono (Below.size hS))
              clear hK K
              (try simp only [Act.put, List.getElem_toArray, List.getElem_cons_zero, List.getElem_cons_succ, List.setIfInBounds_toArray, List.set_cons_zero, List.set_cons_succ])
              replace O1 := hide ((show RG w.heap.size (w.heap.size + 3) _ A1 l1 by (repeat (first | with_reducible exact O1.out | with_reducible refine RG.setc ?_ (by first | (simp; done) | omega | (simp; omega)) (by first | (simp; done) | omega | (simp; omega)) _ | with_reducible refine RG.allc ?_ _ | with_reducible refine RG.drew ?_ | with_reducible refine RG.drewN ?_ _))).kept hb)
              replace O2 := hide ((show RG w.heap.size (w.heap.size + 3) _ A2 l2 by (repeat (first | with_reducible exact O2.out | with_reducible refine RG.setc ?_ (by first | (simp; done) | omega | (simp; omega)) (by first | (simp; done) | omega | (simp; omega)) _ | with_reducible refine RG.allc ?_ _ | with_reducible refine RG.drew ?_ | with_reducible refine RG.drewN ?_ _))).kept hb)
              replace Om := hide Om.out.rd
              have hB6 : Below w.heap.size w w6 := Below.trans (by (repeat (first | with_reducible exact Below.refl _ _ | with_reducible assumption | with_reducible refine Below.setCell ?_ (by first | (simp; done) | omega | (simp; omega)) _ | with_reducible refine Below.alloc ?_ (by first | (simp; done) | omega | (simp; omega)) _ | with_reducible refine below_drewN ?_ _ | with_reducible refine Below.drew ?_))) (hb.mono (by first | omega | (simp; done) | (simp; omega)))
              obtain ⟨kc6, kf6⟩ := bcell hb
              have hz6 := hb.size
              (try simp at hz6)
              have n6_0 : w.heap.size < w6.heap.size := by omega
              have n6_1 : w.heap.size + 1 < w6.heap.size := by omega
              have n6_2 : w.heap.size + 2 < w6.heap.size := by omega
              have m6_0 : w6.cell? ⟨w.heap.size, 0, none⟩ = some (.slice A1 l1.length c1) := (kc6 _ _ (by first | assumption | (simp; done) | omega | (simp; omega))).trans (by first | assumption | (simp [go_sem]; done))
              have v6_0 : w6.frozen? ⟨w.heap.size, 0, none⟩ = false := (kf6 _ _ (by first | assumption | (simp; done) | omega | (simp; omega))).trans (by first | assumption | (simp [go_sem]; done))
              have m6_1 : w6.cell? ⟨w.heap.size, 1, none⟩ = some (.bool s1) := (kc6 _ _ (by first | assumption | (simp; done) | omega | (simp; omega))).trans (by first | assumption | (simp [go_sem]; done))
              have v6_1 : w6.frozen? ⟨w.heap.size, 1, none⟩ = false := (kf6 _ _ (by first | assumption | (simp; done) | omega | (simp; omega))).trans (by first | assumption | (simp [go_sem]; done))
              have m6_2 : w6.cell? ⟨w.heap.size + 1, 0, none⟩ = some (.slice A2 l2.length c2) := (kc6 _ _ (by first | assumption | (simp; done) | omega | (simp; omega))).trans (by first | assumption | (simp [go_sem]; done))
              have v6_2 : w6.frozen? ⟨w.heap.size + 1, 0, none⟩ = false := (kf6 _ _ (by first | assumption | (simp; done) | omega | (simp; omega))).trans (by first | assumption | (simp [go_sem]; done))
              have m6_3 : w6.cell? ⟨w.heap.size + 1, 1, none⟩ = some (.bool s2) := (kc6 _ _ (by first | assumption | (simp; done) | omega | (simp; omega))).trans (by first | assumption | (simp [go_sem]; done))
              have v6_3 : w6.frozen? ⟨w.heap.size + 1, 1, none⟩ = false := (kf6 _ _ (by first | assumption | (simp; done) | omega | (simp; omega))).trans (by first | assumption | (simp [go_sem]; done))
              have m6_4 : w6.cell? ⟨w.heap.size + 2, 0, none⟩ = some (.slice none 0 0) := (kc6 _ _ (by first | assumption | (simp; done) | omega | (simp; omega))).trans (by first | assumption | (simp [go_sem]; done))
              have v6_4 : w6.frozen? ⟨w.heap.size + 2, 0, none⟩ = false := (kf6 _ _ (by first | assumption | (simp; done) | omega | (simp; omega))).trans (by first | assumption | (simp [go_sem]; done))
              have m6_5 : w6.cell? ⟨w.heap.size + 2, 1, none⟩ = some (.bool false) := (kc6 _ _ (by first | assumption | (simp; done) | omega | (simp; omega))).trans (by first | assumption | (simp [go_sem]; done))
              have v6_5 : w6.frozen? ⟨w.heap.size + 2, 1, none⟩ = false := (kf6 _ _ (by first | assumption | (simp; done) | omega | (simp; omega))).trans (by first | assumption | (simp [go_sem]; done))
              clear kc6 kf6
              clear hb
              have em : lm.length ≤ 4096 := by rw [Em.out, nb_length]; omega
              have em2 := hide (show lm.length = l1.length by rw [Em.out, nb_length])
              refine anyT_ready (rs := [5]) (by kernel_rfl) (by simp) ?_
              refine ReadyT.head (o := _) rfl (by decide) (by kernel_rfl) inv (fun K hK => ?_) ReadyT.nil
              go_simp
              refine (number_q A2 l2 c2 _ (by omega) (by refine RG.rd (B0 := w.heap.size) (B1 := w.heap.size + 3) ?_; (repeat (first | with_reducible exact O2.out | with_reducible refine RG.setc ?_ (by first | (simp; done) | omega | (simp; omega)) (by first | (simp; done) | omega | (simp; omega)) _ | with_reducible refine RG.allc ?_ _ | with_reducible refine RG.drew ?_ | with_reducible refine RG.drewN ?_ _)))).mono ?_
              rintro e w7 ⟨lk, Ak, ck, Ek, rfl, Ck, Ok, hb⟩
              go_wp2_with fail
              refine hK.out _ _ ?_ (fun hS inv => ?_)
              · exact (hS : Below w5.heap.size w5 _).trans (hb.mono (Below.size hS))
              clear hK K
              (try simp only [Act.put, List.getElem_toArray, List.getElem_cons_zero, List.getElem_cons_succ, List.setIfInBounds_toArray, List.set_cons_zero, List.set_cons_succ])
              replace Om := hide (Rd.below (by exact Om.out) hb)
              replace O1 := hide ((show RG w.heap.size (w.heap.size + 3) _ A1 l1 by (repeat (first | with_reducible exact O1.out | with_reducible refine RG.setc ?_ (by first | (simp; done) | omega | (simp; omega)) (by first | (simp; done) | omega | (simp; omega)) _ | with_reducible refine RG.allc ?_ _ | with_reducible refine RG.drew ?_ | with_reducible refine RG.drewN ?_ _))).kept hb)
              replace O2 := hide ((show RG w.heap.size (w.heap.size + 3) _ A2 l2 by (repeat (first | with_reducible exact O2.out | with_reducible refine RG.setc ?_ (by first | (simp; done) | omega | (simp; omega)) (by first | (simp; done) | omega | (simp; omega)) _ | with_reducible refine RG.allc ?_ _ | with_reducible refine RG.drew ?_ | with_reducible refine RG.drewN ?_ _))).kept hb)
              replace Ok := hide Ok.out.rd
              have hB7 : Below w.heap.size w w7 := Below.trans (by (repeat (first | with_reducible exact Below.refl _ _ | with_reducible assumption | with_reducible refine Below.setCell ?_ (by first | (simp; done) | omega | (simp; omega)) _ | with_reducible refine Below.alloc ?_ (by first | (simp; done) | omega | (simp; omega)) _ | with_reducible refine below_drewN ?_ _ | with_reducible refine Below.drew ?_))) (hb.mono (by first | omega | (simp; done) | (simp; omega)))
              obtain ⟨kc7, kf7⟩ := bcell hb
              have hz7 := hb.size
              (try simp at hz7)
              have n7_0 : w.heap.size < w7.heap.size := by omega
              have n7_1 : w.heap.size + 1 < w7.heap.size := by omega
              have n7_2 : w.heap.size + 2 < w7.heap.size := by omega
              have m7_0 : w7.cell? ⟨w.heap.size, 0, none⟩ = some (.slice A1 l1.length c1) := (kc7 _ _ (by first | assumption | (simp; done) | omega | (simp; omega))).trans (by first | assumption | (simp [go_sem]; done))
              have v7_0 : w7.frozen? ⟨w.heap.size, 0, none⟩ = false := (kf7 _ _ (by first | assumption | (simp; done) | omega | (simp; omega))).trans (by first | assumption | (simp [go_sem]; done))
              have m7_1 : w7.cell? ⟨w.heap.size, 1, none⟩ = some (.bool s1) := (kc7 _ _ (by first | assumption | (simp; done) | omega | (simp; omega))).trans (by first | assumption | (simp [go_sem]; done))
              have v7_1 : w7.frozen? ⟨w.heap.size, 1, none⟩ = false := (kf7 _ _ (by first | assumption | (simp; done) | omega | (simp; omega))).trans (by first | assumption | (simp [go_sem]; done))
              have m7_2 : w7.cell? ⟨w.heap.size + 1, 0, none⟩ = some (.slice A2 l2.length c2) := (kc7 _ _ (by first | assumption | (simp; done) | omega | (simp; omega))).trans (by first | assumption | (simp [go_sem]; done))
              have v7_2 : w7.frozen? ⟨w.heap.size + 1, 0, none⟩ = false := (kf7 _ _ (by first | assumption | (simp; done) | omega | (simp; omega))).trans (by first | assumption | (simp [go_sem]; done))
              have m7_3 : w7.cell? ⟨w.heap.size + 1, 1, none⟩ = some (.bool s2) := (kc7 _ _ (by first | assumption | (simp; done) | omega | (simp; omega))).trans (by first | assumption | (simp [go_sem]; done))
              have v7_3 : w7.frozen? ⟨w.heap.size + 1, 1, none⟩ = false := (kf7 _ _ (by first | assumption | (simp; done) | omega | (simp; omega))).trans (by first | assumption | (simp [go_sem]; done))
              have m7_4 : w7.cell? ⟨w.heap.size + 2, 0, none⟩ = some (.slice none 0 0) := (kc7 _ _ (by first | assumption | (simp; done) | omega | (simp; omega))).trans (by first | assumption | (simp [go_sem]; done))
              have v7_4 : w7.frozen? ⟨w.heap.size + 2, 0, none⟩ = false := (kf7 _ _ (by first | assumption | (simp; done) | omega | (simp; omega))).trans (by first | assumption | (simp [go_sem]; done))
              have m7_5 : w7.cell? ⟨w.heap.size + 2, 1, none⟩ = some (.bool false) := (kc7 _ _ (by first | assumption | (simp; done) | omega | (simp; omega))).trans (by first | assumption | (simp [go_sem]; done))
              have v7_5 : w7.frozen? ⟨w.heap.size + 2, 1, none⟩ = false := (kf7 _ _ (by first | assumption | (simp; done) | omega | (simp; omega))).trans (by first | assumption | (simp [go_sem]; done))
              clear kc7 kf7
              clear hb
              have ek : lk.length ≤ 4096 := by rw [Ek.out, nb_length]; omega
              refine anyT_ready (rs := [6]) (by kernel_rfl) (by simp) ?_
              refine ReadyT.head (o := _) rfl (by decide) (by kernel_rfl) inv (fun K hK => ?_) ReadyT.nil
              go_simp
              refine (pow_q Am Ak lm lk cm ck _ em ek Om.out Ok.out).mono ?_
              rintro e w8 ⟨lp, Ap, cp, Ep, rfl, Cp, Op, hb⟩
              go_wp2_with fail
              refine hK.out _ _ ?_ (fun hS inv => ?_)
              · exact (hS : Below w5.heap.size w5 _).trans (hb.mono (Below.size hS))
              clear hK K
              (try simp only [Act.put, List.getElem_toArray, List.getElem_cons_zero, List.getElem_cons_succ, List.setIfInBounds_toArray, List.set_cons_zero, List.set_cons_succ])
              replace Om := hide (Rd.below (by exact Om.out) hb)
              replace Ok := hide (Rd.below (by exact Ok.out) hb)
              replace O1 := hide ((show RG w.heap.size (w.heap.size + 3) _ A1 l1 by (repeat (first | with_reducible exact O1.out | with_reducible refine RG.setc ?_ (by first | (simp; done) | omega | (simp; omega)) (by first | (simp; done) | omega | (simp; omega)) _ | with_reducible refine RG.allc ?_ _ | with_reducible refine RG.drew ?_ | with_reducible refine RG.drewN ?_ _))).kept hb)
              replace O2 := hide ((show RG w.heap.size (w.heap.size + 3) _ A2 l2 by (repeat (first | with_reducible exact O2.out | with_reducible refine RG.setc ?_ (by first | (simp; done) | omega | (simp; omega)) (by first | (simp; done) | omega | (simp; omega)) _ | with_reducible refine RG.allc ?_ _ | with_reducible refine RG.drew ?_ | with_reducible refine RG.drewN ?_ _))).kept hb)
              replace Op := hide Op.out.rd
              have hB8 : Below w.heap.size w w8 := Below.trans (by (repeat (first | with_reducible exact Below.refl _ _ | with_reducible assumption | with_reducible refine Below.setCell ?_ (by first | (simp; done) | omega | (simp; omega)) _ | with_reducible refine Below.alloc ?_ (by first | (simp; done) | omega | (simp; omega)) _ | with_reducible refine below_drewN ?_ _ | with_reducible refine Below.drew ?_))) (hb.mono (by first | omega | (simp; done) | (simp; omega)))
              obtain ⟨kc8, kf8⟩ := bcell hb
              have hz8 := hb.size
              (try simp at hz8)
              have n8_0 : w.heap.size < w8.heap.size := by omega
              have n8_1 : w.heap.size + 1 < w8.heap.size := by omega
              have n8_2 : w.heap.size + 2 < w8.heap.size := by omega
              have m8_0 : w8.cell? ⟨w.heap.size, 0, none⟩ = some (.slice A1 l1.length c1) := (kc8 _ _ (by first | assumption | (simp; done) | omega | (simp; omega))).trans (by first | assumption | (simp [go_sem]; done))
              have v8_0 : w8.frozen? ⟨w.heap.size, 0, none⟩ = false := (kf8 _ _ (by first | assumption | (simp; done) | omega | (simp; omega))).trans (by first | assumption | (simp [go_sem]; done))
              have m8_1 : w8.cell? ⟨w.heap.size, 1, none⟩ = some (.bool s1) := (kc8 _ _ (by first | assumption | (simp; done) | omega | (simp; omega))).trans (by first | assumption | (simp [go_sem]; done))
              have v8_1 : w8.frozen? ⟨w.heap.size, 1, none⟩ = false := (kf8 _ _ (by first | assumption | (simp; done) | omega | (simp; omega))).trans (by first | assumption | (simp [go_sem]; done))
              have m8_2 : w8.cell? ⟨w.heap.size + 1, 0, none⟩ = some (.slice A2 l2.length c2) := (kc8 _ _ (by first | assumption | (simp; done) | omega | (simp; omega))).trans (by first | assumption | (simp [go_sem]; done))
              have v8_2 : w8.frozen? ⟨w.heap.size + 1, 0, none⟩ = false := (kf8 _ _ (by first | assumption | (simp; done) | omega | (simp; omega))).trans (by first | assumption | (simp [go_sem]; done))
              have m8_3 : w8.cell? ⟨w.heap.size + 1, 1, none⟩ = some (.bool s2) := (kc8 _ _ (by first | assumption | (simp; done) | omega | (simp; omega))).trans (by first | assumption | (simp [go_sem]; done))
              have v8_3 : w8.frozen? ⟨w.heap.size + 1, 1, none⟩ = false := (kf8 _ _ (by first | assumption | (simp; done) | omega | (simp; omega))).trans (by first | assumption | (simp [go_sem]; done))
              have m8_4 : w8.cell? ⟨w.heap.size + 2, 0, none⟩ = some (.slice none 0 0) := (kc8 _ _ (by first | assumption | (simp; done) | omega | (simp; omega))).trans (by first | assumption | (simp [go_sem]; done))
              have v8_4 : w8.frozen? ⟨w.heap.size + 2, 0, none⟩ = false := (kf8 _ _ (by first | assumption | (simp; done) | omega | (simp; omega))).trans (by first | assumption | (simp [go_sem]; done))
              have m8_5 : w8.cell? ⟨w.heap.size + 2, 1, none⟩ = some (.bool false) := (kc8 _ _ (by first | assumption | (simp; done) | omega | (simp; omega))).trans (by first | assumption | (simp [go_sem]; done))
              have v8_5 : w8.frozen? ⟨w.heap.size + 2, 1, none⟩ = false := (kf8 _ _ (by first | assumption | (simp; done) | omega | (simp; omega))).trans (by first | assumption | (simp [go_sem]; done))
              clear kc8 kf8
              clear hb
              have ep : lp.length ≤ 4096 := by rw [Ep.out, vz_length]; omega
              refine anyT_ready (rs := [9]) (by kernel_rfl) (by simp) ?_
              refine ReadyT.head (o := _) rfl (by decide) (by kernel_rfl) inv (fun K hK => ?_) ReadyT.nil
              go_simp
              refine (vector_any Ap lp cp s1 _ ep Op.out).mono ?_
              rintro e w9 ⟨l3, s3, A3, c3, E3, rfl, C3, O3, hb⟩
              go_wp2_with fail
              refine hK.out _ _ ?_ (fun hS inv => ?_)
              · exact (hS : Below w5.heap.size w5 _).trans (hb.mono (Below.size hS))
              clear hK K
              (try simp only [Act.put, List.getElem_toArray, List.getElem_cons_zero, List.getElem_cons_succ, List.setIfInBounds_toArray, List.set_cons_zero, List.set_cons_succ])
              replace Om := hide (Rd.below (by exact Om.out) hb)
              replace Ok := hide (Rd.below (by exact Ok.out) hb)
              replace Op := hide (Rd.below (by exact Op.out) hb)
              replace O1 := hide ((show RG w.heap.size (w.heap.size + 3) _ A1 l1 by (repeat (first | with_reducible exact O1.out | with_reducible refine RG.setc ?_ (by first | (simp; done) | omega | (simp; omega)) (by first | (simp; done) | omega | (simp; omega)) _ | with_reducible refine RG.allc ?_ _ | with_reducible refine RG.drew ?_ | with_reducible refine RG.drewN ?_ _))).kept hb)
              replace O2 := hide ((show RG w.heap.size (w.heap.size + 3) _ A2 l2 by (repeat (first | with_reducible exact O2.out | with_reducible refine RG.setc ?_ (by first | (simp; done) | omega | (simp; omega)) (by first | (simp; done) | omega | (simp; omega)) _ | with_reducible refine RG.allc ?_ _ | with_reducible refine RG.drew ?_ | with_reducible refine RG.drewN ?_ _))).kept hb)
              replace O3 := hide (O3.out.base (show w.heap.size + 3 ≤ _ by first | omega | (simp; omega) | (simp; done)))
              have hB9 : Below w.heap.size w w9 := Below.trans (by (repeat (first | with_reducible exact Below.refl _ _ | with_reducible assumption | with_reducible refine Below.setCell ?_ (by first | (simp; done) | omega | (simp; omega)) _ | with_reducible refine Below.alloc ?_ (by first | (simp; done) | omega | (simp; omega)) _ | with_reducible refine below_drewN ?_ _ | with_reducible refine Below.drew ?_))) (hb.mono (by first | omega | (simp; done) | (simp; omega)))
              obtain ⟨kc9, kf9⟩ := bcell hb
              have hz9 := hb.size
              (try simp at hz9)
              have n9_0 : w.heap.size < w9.heap.size := by omega
              have n9_1 : w.heap.size + 1 < w9.heap.size := by omega
              have n9_2 : w.heap.size + 2 < w9.heap.size := by omega
              have m9_0 : w9.cell? ⟨w.heap.size, 0, none⟩ = some (.slice A1 l1.length c1) := (kc9 _ _ (by first | assumption | (simp; done) | omega | (simp; omega))).trans (by first | assumption | (simp [go_sem]; done))
              have v9_0 : w9.frozen? ⟨w.heap.size, 0, none⟩ = false := (kf9 _ _ (by first | assumption | (simp; done) | omega | (simp; omega))).trans (by first | assumption | (simp [go_sem]; done))
              have m9_1 : w9.cell? ⟨w.heap.size, 1, none⟩ = some (.bool s1) := (kc9 _ _ (by first | assumption | (simp; done) | omega | (simp; omega))).trans (by first | assumption | (simp [go_sem]; done))
              have v9_1 : w9.frozen? ⟨w.heap.size, 1, none⟩ = false := (kf9 _ _ (by first | assumption | (simp; done) | omega | (simp; omega))).trans (by first | assumption | (simp [go_sem]; done))
              have m9_2 : w9.cell? ⟨w.heap.size + 1, 0, none⟩ = some (.slice A2 l2.length c2) := (kc9 _ _ (by first | assumption | (simp; done) | omega | (simp; omega))).trans (by first | assumption | (simp [go_sem]; done))
              have v9_2 : w9.frozen? ⟨w.heap.size + 1, 0, none⟩ = false := (kf9 _ _ (by first | assumption | (simp; done) | omega | (simp; omega))).trans (by first | assumption | (simp [go_sem]; done))
              have m9_3 : w9.cell? ⟨w.heap.size + 1, 1, none⟩ = some (.bool s2) := (kc9 _ _ (by first | assumption | (simp; done) | omega | (simp; omega))).trans (by first | assumption | (simp [go_sem]; done))
              have v9_3 : w9.frozen? ⟨w.heap.size + 1, 1, none⟩ = false := (kf9 _ _ (by first | assumption | (simp; done) | omega | (simp; omega))).trans (by first | assumption | (simp [go_sem]; done))
              have m9_4 : w9.cell? ⟨w.heap.size + 2, 0, none⟩ = some (.slice none 0 0) := (kc9 _ _ (by first | assumption | (simp; done) | omega | (simp; omega))).trans (by first | assumption | (simp [go_sem]; done))
              have v9_4 : w9.frozen? ⟨w.heap.size + 2, 0, none⟩ = false := (kf9 _ _ (by first | assumption | (simp; done) | omega | (simp; omega))).trans (by first | assumption | (simp [go_sem]; done))
              have m9_5 : w9.cell? ⟨w.heap.size + 2, 1, none⟩ = some (.bool false) := (kc9 _ _ (by first | assumption | (simp; done) | omega | (simp; omega))).trans (by first | assumption | (simp [go_sem]; done))
              have v9_5 : w9.frozen? ⟨w.heap.size + 2, 1, none⟩ = false := (kf9 _ _ (by first | assumption | (simp; done) | omega | (simp; omega))).trans (by first | assumption | (simp [go_sem]; done))
              clear kc9 kf9
              clear hb
              refine anyT_ready (rs := [10]) (by kernel_rfl) (by simp) ?_
              refine ReadyT.tail (o := _) rfl (by decide) (fun K hK => ?_)
              go_simp
              refine hK.out _ _ ?_
              clear hK K
              (try simp only [Act.put, List.getElem_toArray, List.getElem_cons_zero, List.getElem_cons_succ, List.setIfInBounds_toArray, List.set_cons_zero, List.set_cons_succ])
              refine anyT_done (by kernel_rfl) ?_ _
              go_wp2
              refine bodyPost_ret (v := .agg #[.slice A3 l3.length c3, .bool s3]) (by simp [results, Tryz.results61, go_sem, *]) rfl ?_
              exact ⟨l3, s3, A3, c3, hide (E3.out.trans (by rw [HR.out, Ep.out, em2.out, Em.out, Ek.out]; simp)), rfl, C3, hide (OwQ.base (B := w.heap.size + 3) (by (repeat (first | with_reducible exact O3.out | with_reducible refine OwQ.far ?_ (by first | (simp; done) | omega | (simp; omega)) _ | with_reducible refine OwQ.allc ?_ _ | with_reducible refine OwQ.drew ?_ | with_reducible refine OwQ.drewN ?_ _))) (by omega)), by (repeat (first | with_reducible exact Below.refl _ _ | with_reducible assumption | with_reducible refine Below.setCell ?_ (by first | (simp; done) | omega | (simp; omega)) _ | with_reducible refine Below.alloc ?_ (by first | (simp; done) | omega | (simp; omega)) _ | with_reducible refine below_drewN ?_ _ | with_reducible refine Below.drew ?_))⟩
            · by_cases hm : L = -1
              · subst hm
                clear hlo hhi h1
                go_wp2_with fail
                refine (hTr.out _ (by refine RG.rd (B0 := w.heap.size) (B1 := w.heap.size + 3) ?_; (repeat (first | with_reducible exact O1.out | with_reducible refine RG.setc ?_ (by first | (simp; done) | omega | (simp; omega)) (by first | (simp; done) | omega | (simp; omega)) _ | with_reducible refine RG.allc ?_ _ | with_reducible refine RG.drew ?_ | with_reducible refine RG.drewN ?_ _))) (by (repeat (first | with_reducible exact Below.refl _ _ | with_reducible assumption | with_reducible refine Below.setCell ?_ (by first | (simp; done) | omega | (simp; omega)) _ | with_reducible refine Below.alloc ?_ (by first | (simp; done) | omega | (simp; omega)) _ | with_reducible refine below_drewN ?_ _ | with_reducible refine Below.drew ?_)))).mono ?_
                rintro e w5 ⟨rfl, hb⟩
                replace O1 := hide ((show RG w.heap.size (w.heap.size + 3) _ A1 l1 by (repeat (first | with_reducible exact O1.out | with_reducible refine RG.setc ?_ (by first | (simp; done) | omega | (simp; omega)) (by first | (simp; done) | omega | (simp; omega)) _ | with_reducible refine RG.allc ?_ _ | with_reducible refine RG.drew ?_ | with_reducible refine RG.drewN ?_ _))).kept hb)
                replace O2 := hide ((show RG w.heap.size (w.heap.size + 3) _ A2 l2 by (repeat (first | with_reducible exact O2.out | with_reducible refine RG.setc ?_ (by first | (simp; done) | omega | (simp; omega)) (by first | (simp; done) | omega | (simp; omega)) _ | with_reducible refine RG.allc ?_ _ | with_reducible refine RG.drew ?_ | with_reducible refine RG.drewN ?_ _))).kept hb)
                have hB5 : Below w.heap.size w w5 := Below.trans (by (repeat (first | with_reducible exact Below.refl _ _ | with_reducible assumption | with_reducible refine Below.setCell ?_ (by first | (simp; done) | omega | (simp; omega)) _ | with_reducible refine Below.alloc ?_ (by first | (simp; done) | omega | (simp; omega)) _ | with_reducible refine below_drewN ?_ _ | with_reducible refine Below.drew ?_))) (hb.mono (by first | omega | (simp; done) | (simp; omega)))
                obtain ⟨kc5, kf5⟩ := bcell hb
                have hz5 := hb.size
                (try simp at hz5)
                have n5_0 : w.heap.size < w5.heap.size := by omega
                have n5_1 : w.heap.size + 1 < w5.heap.size := by omega
                have n5_2 : w.heap.size + 2 < w5.heap.size := by omega
                have m5_0 : w5.cell? ⟨w.heap.size, 0, none⟩ = some (.slice A1 l1.length c1) := (kc5 _ _ (by first | assumption | (simp; done) | omega | (simp; omega))).trans (by first | assumption | (simp [go_sem]; done))
                have v5_0 : w5.frozen? ⟨w.heap.size, 0, none⟩ = false := (kf5 _ _ (by first | assumption | (simp; done) | omega | (simp; omega))).trans (by first | assumption | (simp [go_sem]; done))
                have m5_1 : w5.cell? ⟨w.heap.size, 1, none⟩ = some (.bool s1) := (kc5 _ _ (by first | assumption | (simp; done) | omega | (simp; omega))).trans (by first | assumption | (simp [go_sem]; done))
                have v5_1 : w5.frozen? ⟨w.heap.size, 1, none⟩ = false := (kf5 _ _ (by first | assumption | (simp; done) | omega | (simp; omega))).trans (by first | assumption | (simp [go_sem]; done))
                have m5_2 : w5.cell? ⟨w.heap.size + 1, 0, none⟩ = some (.slice A2 l2.length c2) := (kc5 _ _ (by first | assumption | (simp; done) | omega | (simp; omega))).trans (by first | assumption | (simp [go_sem]; done))
                have v5_2 : w5.frozen? ⟨w.heap.size + 1, 0, none⟩ = false := (kf5 _ _ (by first | assumption | (simp; done) | omega | (simp; omega))).trans (by first | assumption | (simp [go_sem]; done))
                have m5_3 : w5.cell? ⟨w.heap.size + 1, 1, none⟩ = some (.bool s2) := (kc5 _ _ (by first | assumption | (simp; done) | omega | (simp; omega))).trans (by first | assumption | (simp [go_sem]; done))
                have v5_3 : w5.frozen? ⟨w.heap.size + 1, 1, none⟩ = false := (kf5 _ _ (by first | assumption | (simp; done) | omega | (simp; omega))).trans (by first | assumption | (simp [go_sem]; done))
                have m5_4 : w5.cell? ⟨w.heap.size + 2, 0, none⟩ = some (.slice none 0 0) := (kc5 _ _ (by first | assumption | (simp; done) | omega | (simp; omega))).trans (by first | assumption | (simp [go_sem]; done))
                have v5_4 : w5.frozen? ⟨w.heap.size + 2, 0, none⟩ = false := (kf5 _ _ (by first | assumption | (simp; done) | omega | (simp; omega))).trans (by first | assumption | (simp [go_sem]; done))
                have m5_5 : w5.cell? ⟨w.heap.size + 2, 1, none⟩ = some (.bool false) := (kc5 _ _ (by first | assumption | (simp; done) | omega | (simp; omega))).trans (by first | assumption | (simp [go_sem]; done))
                have v5_5 : w5.frozen? ⟨w.heap.size + 2, 1, none⟩ = false := (kf5 _ _ (by first | assumption | (simp; done) | omega | (simp; omega))).trans (by first | assumption | (simp [go_sem]; done))
                clear kc5 kf5
                clear hb
                go_wp2_with fail
                refine region_anyT (S := fun wS => Below w5.heap.size w5 wS) (n := 10) (by kernel_rfl) (Below.refl _ _).drew (fun hS inv => ?_)
                refine anyT_take (i := 0) (oi := _) (v := Value.pointer (some ⟨w.heap.size, 0, none⟩)) rfl (by kernel_rfl) (by kernel_rfl) (by kernel_rfl) (by decide) (by decide) (by kernel_rfl) (by kernel_rfl) inv (fun _ _ _ h => h) (Or.inl ⟨by kernel_rfl, ?_⟩) hS (fun inv => ?_)
                · intro wz hSw
                  first | kernel_rfl | go_simp
                (try simp only [Act.put, List.getElem_toArray, List.getElem_cons_zero, List.getElem_cons_succ, List.setIfInBounds_toArray, List.set_cons_zero, List.set_cons_succ])
                refine anyT_take (i := 1) (oi := _) (v := Value.slice A1 l1.length c1) rfl (by kernel_rfl) (by kernel_rfl) (by kernel_rfl) (by decide) (by decide) (by kernel_rfl) (by kernel_rfl) inv (fun _ _ _ h => h) (Or.inl ⟨by kernel_rfl, ?_⟩) hS (fun inv => ?_)
                · intro wz hSw
                  have hk0 := (hSw : Below _ _ _).cell (p := ⟨w.heap.size, 0, none⟩) (by first | assumption | (simp; done) | omega | (simp; omega)); go_simp
                (try simp only [Act.put, List.getElem_toArray, List.getElem_cons_zero, List.getElem_cons_succ, List.setIfInBounds_toArray, List.set_cons_zero, List.set_cons_succ])
                refine anyT_take (i := 3) (oi := _) (v := Value.pointer (some ⟨w.heap.size + 1, 0, none⟩)) rfl (by kernel_rfl) (by kernel_rfl) (by kernel_rfl) (by decide) (by decide) (by kernel_rfl) (by kernel_rfl) inv (fun _ _ _ h => h) (Or.inl ⟨by kernel_rfl, ?_⟩) hS (fun inv => ?_)
                · intro wz hSw
                  first | kernel_rfl | go_simp
                (try simp only [Act.put, List.getElem_toArray, List.getElem_cons_zero, List.getElem_cons_succ, List.setIfInBounds_toArray, List.set_cons_zero, List.set_cons_succ])
                refine anyT_take (i := 4) (oi := _) (v := Value.slice A2 l2.length c2) rfl (by kernel_rfl) (by kernel_rfl) (by kernel_rfl) (by decide) (by decide) (by kernel_rfl) (by kernel_rfl) inv (fun _ _ _ h => h) (Or.inl ⟨by kernel_rfl, ?_⟩) hS (fun inv => ?_)
                · intro wz hSw
                  have hk0 := (hSw : Below _ _ _).cell (p := ⟨w.heap.size + 1, 0, none⟩) (by first | assumption | (simp; done) | omega | (simp; omega)); go_simp
                (try simp only [Act.put, List.getElem_toArray, List.getElem_cons_zero, List.getElem_cons_succ, List.setIfInBounds_toArray, List.set_cons_zero, List.set_cons_succ])
                refine anyT_take (i := 7) (oi := _) (v := Value.pointer (some ⟨w.heap.size, 1, none⟩)) rfl (by kernel_rfl) (by kernel_rfl) (by kernel_rfl) (by decide) (by decide) (by kernel_rfl) (by kernel_rfl) inv (fun _ _ _ h => h) (Or.inl ⟨by kernel_rfl, ?_⟩) hS (fun inv => ?_)
                · intro wz hSw
                  first | kernel_rfl | go_simp
                (try simp only [Act.put, List.getElem_toArray, List.getElem_cons_zero, List.getElem_cons_succ, List.setIfInBounds_toArray, List.set_cons_zero, List.set_cons_succ])
                refine anyT_take (i := 8) (oi := _) (v := Value.bool s1) rfl (by kernel_rfl) (by kernel_rfl) (by kernel_rfl) (by decide) (by decide) (by kernel_rfl) (by kernel_rfl) inv (fun _ _ _ h => h) (Or.inl ⟨by kernel_rfl, ?_⟩) hS (fun inv => ?_)
                · intro wz hSw
                  have hk0 := (hSw : Below _ _ _).cell (p := ⟨w.heap.size, 1, none⟩) (by first | assumption | (simp; done) | omega | (simp; omega)); go_simp
                (try simp only [Act.put, List.getElem_toArray, List.getElem_cons_zero, List.getElem_cons_succ, List.setIfInBounds_toArray, List.set_cons_zero, List.set_cons_succ])
                refine anyT_ready (rs := [2]) (by kernel_rfl) (by simp) ?_
                refine ReadyT.head (o := _) rfl (by decide) (by kernel_rfl) inv (fun K hK => ?_) ReadyT.nil
                go_simp
                refine (number_q A1 l1 c1 _ (by omega) (by refine RG.rd (B0 := w.heap.size) (B1 := w.heap.size + 3) ?_; (repeat (first | with_reducible exact O1.out | with_reducible refine RG.setc ?_ (by first | (simp; done) | omega | (simp; omega)) (by first | (simp; done) | omega | (simp; omega)) _ | with_reducible refine RG.allc ?_ _ | with_reducible refine RG.drew ?_ | with_reducible refine RG.drewN ?_ _)))).mono ?_
                rintro e w6 ⟨lm, Am, cm, Em, rfl, Cm, Om, hb⟩
                go_wp2_with fail
                refine hK.out _ _ ?_ (fun hS inv => ?_)
                · exact (hS : Below w5.heap.size w5 _).trans (hb.mono (Below.size hS))
                clear hK K
                (try simp only [Act.put, List.getElem_toArray, List.getElem_cons_zero, List.getElem_cons_succ, List.setIfInBounds_toArray, List.set_cons_zero, List.set_cons_succ])
                replace O1 := hide ((show RG w.heap.size (w.heap.size + 3) _ A1 l1 by (repeat (first | with_reducible exact O1.out | with_reducible refine RG.setc ?_ (by first | (simp; done) | omega | (simp; omega)) (by first | (simp; done) | omega | (simp; omega)) _ | with_reducible refine RG.allc ?_ _ | with_reducible refine RG.drew ?_ | with_reducible refine RG.drewN ?_ _))).kept hb)
                replace O2 := hide ((show RG w.heap.size (w.heap.size + 3) _ A2 l2 by (repeat (first | with_reducible exact O2.out | with_reducible refine RG.setc ?_ (by first | (simp; done) | omega | (simp; omega)) (by first | (simp; done) | omega | (simp; omega)) _ | with_reducible refine RG.allc ?_ _ | with_reducible refine RG.drew ?_ | with_reducible refine RG.drewN ?_ _))).kept hb)
                replace Om := hide Om.out.rd
                have hB6 : Below w.heap.size w w6 := Below.trans (by (repeat (first | with_reducible exact Below.refl _ _ | with_reducible assumption | with_reducible refine Below.setCell ?_ (by first | (simp; done) | omega | (simp; omega)) _ | with_reducible refine Below.alloc ?_ (by first | (simp; done) | omega | (simp; omega)) _ | with_reducible refine below_drewN ?_ _ | with_reducible refine Below.drew ?_))) (hb.mono (by first | omega | (simp; done) | (simp; omega)))
                obtain ⟨kc6, kf6⟩ := bcell hb
                have hz6 := hb.size
                (try simp at hz6)
                have n6_0 : w.heap.size < w6.heap.size := by omega
                have n6_1 : w.heap.size + 1 < w6.heap.size := by omega
                have n6_2 : w.heap.size + 2 < w6.heap.size := by omega
                have m6_0 : w6.cell? ⟨w.heap.size, 0, none⟩ = some (.slice A1 l1.length c1) := (kc6 _ _ (by first | assumption | (simp; done) | omega | (simp; omega))).trans (by first | assumption | (simp [go_sem]; done))
                have v6_0 : w6.frozen? ⟨w.heap.size, 0, none⟩ = false := (kf6 _ _ (by first | assumption | (simp; done) | omega | (simp; omega))).trans (by first | assumption | (simp [go_sem]; done))
                have m6_1 : w6.cell? ⟨w.heap.size, 1, none⟩ = some (.bool s1) := (kc6 _ _ (by first | assumption | (simp; done) | omega | (simp; omega))).trans (by first | assumption | (simp [go_sem]; done))
                have v6_1 : w6.frozen? ⟨w.heap.size, 1, none⟩ = false := (kf6 _ _ (by first | assumption | (simp; done) | omega | (simp; omega))).trans (by first | assumption | (simp [go_sem]; done))
                have m6_2 : w6.cell? ⟨w.heap.size + 1, 0, none⟩ = some (.slice A2 l2.length c2) := (kc6 _ _ (by first | assumption | (simp; done) | omega | (simp; omega))).trans (by first | assumption | (simp [go_sem]; done))
                have v6_2 : w6.frozen? ⟨w.heap.size + 1, 0, none⟩ = false := (kf6 _ _ (by first | assumption | (simp; done) | omega | (simp; omega))).trans (by first | assumption | (simp [go_sem]; done))
                have m6_3 : w6.cell? ⟨w.heap.size + 1, 1, none⟩ = some (.bool s2) := (kc6 _ _ (by first | assumption | (simp; done) | omega | (simp; omega))).trans (by first | assumption | (simp [go_sem]; done))
                have v6_3 : w6.frozen? ⟨w.heap.size + 1, 1, none⟩ = false := (kf6 _ _ (by first | assumption | (simp; done) | omega | (simp; omega))).trans (by first | assumption | (simp [go_sem]; done))
                have m6_4 : w6.cell? ⟨w.heap.size + 2, 0, none⟩ = some (.slice none 0 0) := (kc6 _ _ (by first | assumption | (simp; done) | omega | (simp; omega))).trans (by first | assumption | (simp [go_sem]; done))
                have v6_4 : w6.frozen? ⟨w.heap.size + 2, 0, none⟩ = false := (kf6 _ _ (by first | assumption | (simp; done) | omega | (simp; omega))).trans (by first | assumption | (simp [go_sem]; done))
                have m6_5 : w6.cell? ⟨w.heap.size + 2, 1, none⟩ = some (.bool false) := (kc6 _ _ (by first | assumption | (simp; done) | omega | (simp; omega))).trans (by first | assumption | (simp [go_sem]; done))
                have v6_5 : w6.frozen? ⟨w.heap.size + 2, 1, none⟩ = false := (kf6 _ _ (by first | assumption | (simp; done) | omega | (simp; omega))).trans (by first | assumption | (simp [go_sem]; done))
                clear kc6 kf6
                clear hb
                have em : lm.length ≤ 4096 := by rw [Em.out, nb_length]; omega
                have em2 := hide (show lm.length = l1.length by rw [Em.out, nb_length])
                refine anyT_ready (rs := [5]) (by kernel_rfl) (by simp) ?_
                refine ReadyT.head (o := _) rfl (by decide) (by kernel_rfl) inv (fun K hK => ?_) ReadyT.nil
                go_simp
                refine (number_q A2 l2 c2 _ (by omega) (by refine RG.rd (B0 := w.heap.size) (B1 := w.heap.size + 3) ?_; (repeat (first | with_reducible exact O2.out | with_reducible refine RG.setc ?_ (by first | (simp; done) | omega | (simp; omega)) (by first | (simp; done) | omega | (simp; omega)) _ | with_reducible refine RG.allc ?_ _ | with_reducible refine RG.drew ?_ | with_reducible refine RG.drewN ?_ _)))).mono ?_
                rintro e w7 ⟨lk, Ak, ck, Ek, rfl, Ck, Ok, hb⟩
                go_wp2_with fail
                refine hK.out _ _ ?_ (fun hS inv => ?_)
                · exact (hS : Below w5.heap.size w5 _).trans (hb.mono (Below.size hS))
                clear hK K
                (try simp only [Act.put, List.getElem_toArray, List.getElem_cons_zero, List.getElem_cons_succ, List.setIfInBounds_toArray, List.set_cons_zero, List.set_cons_succ])
                replace Om := hide (Rd.below (by exact Om.out) hb)
                replace O1 := hide ((show RG w.heap.size (w.heap.size + 3) _ A1 l1 by (repeat (first | with_reducible exact O1.out | with_reducible refine RG.setc ?_ (by first | (simp; done) | omega | (simp; omega)) (by first | (simp; done) | omega | (simp; omega)) _ | with_reducible refine RG.allc ?_ _ | with_reducible refine RG.drew ?_ | with_reducible refine RG.drewN ?_ _))).kept hb)
                replace O2 := hide ((show RG w.heap.size (w.heap.size + 3) _ A2 l2 by (repeat (first | with_reducible exact O2.out | with_reducible refine RG.setc ?_ (by first | (simp; done) | omega | (simp; omega)) (by first | (simp; done) | omega | (simp; omega)) _ | with_reducible refine RG.allc ?_ _ | with_reducible refine RG.drew ?_ | with_reducible refine RG.drewN ?_ _))).kept hb)
                replace Ok := hide Ok.out.rd
                have hB7 : Below w.heap.size w w7 := Below.trans (by (repeat (first | with_reducible exact Below.refl _ _ | with_reducible assumption | with_reducible refine Below.setCell ?_ (by first | (simp; done) | omega | (simp; omega)) _ | with_reducible refine Below.alloc ?_ (by first | (simp; done) | omega | (simp; omega)) _ | with_reducible refine below_drewN ?_ _ | with_reducible refine Below.drew ?_))) (hb.mono (by first | omega | (simp; done) | (simp; omega)))
                obtain ⟨kc7, kf7⟩ := bcell hb
                have hz7 := hb.size
                (try simp at hz7)
                have n7_0 : w.heap.size < w7.heap.size := by omega
                have n7_1 : w.heap.size + 1 < w7.heap.size := by omega
                have n7_2 : w.heap.size + 2 < w7.heap.size := by omega
                have m7_0 : w7.cell? ⟨w.heap.size, 0, none⟩ = some (.slice A1 l1.length c1) := (kc7 _ _ (by first | assumption | (simp; done) | omega | (simp; omega))).trans (by first | assumption | (simp [go_sem]; done))
                have v7_0 : w7.frozen? ⟨w.heap.size, 0, none⟩ = false := (kf7 _ _ (by first | assumption | (simp; done) | omega | (simp; omega))).trans (by first | assumption | (simp [go_sem]; done))
                have m7_1 : w7.cell? ⟨w.heap.size, 1, none⟩ = some (.bool s1) := (kc7 _ _ (by first | assumption | (simp; done) | omega | (simp; omega))).trans (by first | assumption | (simp [go_sem]; done))
                have v7_1 : w7.frozen? ⟨w.heap.size, 1, none⟩ = false := (kf7 _ _ (by first | assumption | (simp; done) | omega | (simp; omega))).trans (by first | assumption | (simp [go_sem]; done))
                have m7_2 : w7.cell? ⟨w.heap.size + 1, 0, none⟩ = some (.slice A2 l2.length c2) := (kc7 _ _ (by first | assumption | (simp; done) | omega | (simp; omega))).trans (by first | assumption | (simp [go_sem]; done))
                have v7_2 : w7.frozen? ⟨w.heap.size + 1, 0, none⟩ = false := (kf7 _ _ (by first | assumption | (simp; done) | omega | (simp; omega))).trans (by first | assumption | (simp [go_sem]; done))
                have m7_3 : w7.cell? ⟨w.heap.size + 1, 1, none⟩ = some (.bool s2) := (kc7 _ _ (by first | assumption | (simp; done) | omega | (simp; omega))).trans (by first | assumption | (simp [go_sem]; done))
                have v7_3 : w7.frozen? ⟨w.heap.size + 1, 1, none⟩ = false := (kf7 _ _ (by first | assumption | (simp; done) | omega | (simp; omega))).trans (by first | assumption | (simp [go_sem]; done))
                have m7_4 : w7.cell? ⟨w.heap.size + 2, 0, none⟩ = some (.slice none 0 0) := (kc7 _ _ (by first | assumption | (simp; done) | omega | (simp; omega))).trans (by first | assumption | (simp [go_sem]; done))
                have v7_4 : w7.frozen? ⟨w.heap.size + 2, 0, none⟩ = false := (kf7 _ _ (by first | assumption | (simp; done) | omega | (simp; omega))).trans (by first | assumption | (simp [go_sem]; done))
                have m7_5 : w7.cell? ⟨w.heap.size + 2, 1, none⟩ = some (.bool false) := (kc7 _ _ (by first | assumption | (simp; done) | omega | (simp; omega))).trans (by first | assumption | (simp [go_sem]; done))
                have v7_5 : w7.frozen? ⟨w.heap.size + 2, 1, none⟩ = false := (kf7 _ _ (by first | assumption | (simp; done) | omega | (simp; omega))).trans (by first | assumption | (simp [go_sem]; done))
                clear kc7 kf7
                clear hb
                have ek : lk.length ≤ 4096 := by rw [Ek.out, nb_length]; omega
                refine anyT_ready (rs := [6]) (by kernel_rfl) (by simp) ?_
                refine ReadyT.head (o := _) rfl (by decide) (by kernel_rfl) inv (fun K hK => ?_) ReadyT.nil
                go_simp
                refine (pow_q Am Ak lm lk cm ck _ em ek Om.out Ok.out).mono ?_
                rintro e w8 ⟨lp, Ap, cp, Ep, rfl, Cp, Op, hb⟩
                go_wp2_with fail
                refine hK.out _ _ ?_ (fun hS inv => ?_)
                · exact (hS : Below w5.heap.size w5 _).trans (hb.mono (Below.size hS))
                clear hK K
                (try simp only [Act.put, List.getElem_toArray, List.getElem_cons_zero, List.getElem_cons_succ, List.setIfInBounds_toArray, List.set_cons_zero, List.set_cons_succ])
                replace Om := hide (Rd.below (by exact Om.out) hb)
                replace Ok := hide (Rd.below (by exact Ok.out) hb)
                replace O1 := hide ((show RG w.heap.size (w.heap.size + 3) _ A1 l1 by (repeat (first | with_reducible exact O1.out | with_reducible refine RG.setc ?_ (by first | (simp; done) | omega | (simp; omega)) (by first | (simp; done) | omega | (simp; omega)) _ | with_reducible refine RG.allc ?_ _ | with_reducible refine RG.drew ?_ | with_reducible refine RG.drewN ?_ _))).kept hb)
                replace O2 := hide ((show RG w.heap.size (w.heap.size + 3) _ A2 l2 by (repeat (first | with_reducible exact O2.out | with_reducible refine RG.setc ?_ (by first | (simp; done) | omega | (simp; omega)) (by first | (simp; done) | omega | (simp; omega)) _ | with_reducible refine RG.allc ?_ _ | with_reducible refine RG.drew ?_ | with_reducible refine RG.drewN ?_ _))).kept hb)
                replace Op := hide Op.out.rd
                have hB8 : Below w.heap.size w w8 := Below.trans (by (repeat (first | with_reducible exact Below.refl _ _ | with_reducible assumption | with_reducible refine Below.setCell ?_ (by first | (simp; done) | omega | (simp; omega)) _ | with_reducible refine Below.alloc ?_ (by first | (simp; done) | omega | (simp; omega)) _ | with_reducible refine below_drewN ?_ _ | with_reducible refine Below.drew ?_))) (hb.mono (by first | omega | (simp; done) | (simp; omega)))
                obtain ⟨kc8, kf8⟩ := bcell hb
                have hz8 := hb.size
                (try simp at hz8)
                have n8_0 : w.heap.size < w8.heap.size := by omega
                have n8_1 : w.heap.size + 1 < w8.heap.size := by omega
                have n8_2 : w.heap.size + 2 < w8.heap.size := by omega
                have m8_0 : w8.cell? ⟨w.heap.size, 0, none⟩ = some (.slice A1 l1.length c1) := (kc8 _ _ (by first | assumption | (simp; done) | omega | (simp; omega))).trans (by first | assumption | (simp [go_sem]; done))
                have v8_0 : w8.frozen? ⟨w.heap.size, 0, none⟩ = false := (kf8 _ _ (by first | assumption | (simp; done) | omega | (simp; omega))).trans (by first | assumption | (simp [go_sem]; done))
                have m8_1 : w8.cell? ⟨w.heap.size, 1, none⟩ = some (.bool s1) := (kc8 _ _ (by first | assumption | (simp; done) | omega | (simp; omega))).trans (by first | assumption | (simp [go_sem]; done))
                have v8_1 : w8.frozen? ⟨w.heap.size, 1, none⟩ = false := (kf8 _ _ (by first | assumption | (simp; done) | omega | (simp; omega))).trans (by first | assumption | (simp [go_sem]; done))
                have m8_2 : w8.cell? ⟨w.heap.size + 1, 0, none⟩ = some (.slice A2 l2.length c2) := (kc8 _ _ (by first | assumption | (simp; done) | omega | (simp; omega))).trans (by first | assumption | (simp [go_sem]; done))
                have v8_2 : w8.frozen? ⟨w.heap.size + 1, 0, none⟩ = false := (kf8 _ _ (by first | assumption | (simp; done) | omega | (simp; omega))).trans (by first | assumption | (simp [go_sem]; done))
                have m8_3 : w8.cell? ⟨w.heap.size + 1, 1, none⟩ = some (.bool s2) := (kc8 _ _ (by first | assumption | (simp; done) | omega | (simp; omega))).trans (by first | assumption | (simp [go_sem]; done))
                have v8_3 : w8.frozen? ⟨w.heap.size + 1, 1, none⟩ = false := (kf8 _ _ (by first | assumption | (simp; done) | omega | (simp; omega))).trans (by first | assumption | (simp [go_sem]; done))
                have m8_4 : w8.cell? ⟨w.heap.size + 2, 0, none⟩ = some (.slice none 0 0) := (kc8 _ _ (by first | assumption | (simp; done) | omega | (simp; omega))).trans (by first | assumption | (simp [go_sem]; done))
                have v8_4 : w8.frozen? ⟨w.heap.size + 2, 0, none⟩ = false := (kf8 _ _ (by first | assumption | (simp; done) | omega | (simp; omega))).trans (by first | assumption | (simp [go_sem]; done))
                have m8_5 : w8.cell? ⟨w.heap.size + 2, 1, none⟩ = some (.bool false) := (kc8 _ _ (by first | assumption | (simp; done) | omega | (simp; omega))).trans (by first | assumption | (simp [go_sem]; done))
                have v8_5 : w8.frozen? ⟨w.heap.size + 2, 1, none⟩ = false := (kf8 _ _ (by first | assumption | (simp; done) | omega | (simp; omega))).trans (by first | assumption | (simp [go_sem]; done))
                clear kc8 kf8
                clear hb
                have ep : lp.length ≤ 4096 := by rw [Ep.out, vz_length]; omega
                refine anyT_ready (rs := [9]) (by kernel_rfl) (by simp) ?_
                refine ReadyT.head (o := _) rfl (by decide) (by kernel_rfl) inv (fun K hK => ?_) ReadyT.nil
                go_simp
                refine (vector_any Ap lp cp s1 _ ep Op.out).mono ?_
                rintro e w9 ⟨l3, s3, A3, c3, E3, rfl, C3, O3, hb⟩
                go_wp2_with fail
                refine hK.out _ _ ?_ (fun hS inv => ?_)
                · exact (hS : Below w5.heap.size w5 _).trans (hb.mono (Below.size hS))
                clear hK K
                (try simp only [Act.put, List.getElem_toArray, List.getElem_cons_zero, List.getElem_cons_succ, List.setIfInBounds_toArray, List.set_cons_zero, List.set_cons_succ])
                replace Om := hide (Rd.below (by exact Om.out) hb)
                replace Ok := hide (Rd.below (by exact Ok.out) hb)
                replace Op := hide (Rd.below (by exact Op.out) hb)
                replace O1 := hide ((show RG w.heap.size (w.heap.size + 3) _ A1 l1 by (repeat (first | with_reducible exact O1.out | with_reducible refine RG.setc ?_ (by first | (simp; done) | omega | (simp; omega)) (by first | (simp; done) | omega | (simp; omega)) _ | with_reducible refine RG.allc ?_ _ | with_reducible refine RG.drew ?_ | with_reducible refine RG.drewN ?_ _))).kept hb)
                replace O2 := hide ((show RG w.heap.size (w.heap.size + 3) _ A2 l2 by (repeat (first | with_reducible exact O2.out | with_reducible refine RG.setc ?_ (by first | (simp; done) | omega | (simp; omega)) (by first | (simp; done) | omega | (simp; omega)) _ | with_reducible refine RG.allc ?_ _ | with_reducible refine RG.drew ?_ | with_reducible refine RG.drewN ?_ _))).kept hb)
                replace O3 := hide (O3.out.base (show w.heap.size + 3 ≤ _ by first | omega | (simp; omega) | (simp; done)))
                have hB9 : Below w.heap.size w w9 := Below.trans (by (repeat (first | with_reducible exact Below.refl _ _ | with_reducible assumption | with_reducible refine Below.setCell ?_ (by first | (simp; done) | omega | (simp; omega)) _ | with_reducible refine Below.alloc ?_ (by first | (simp; done) | omega | (simp; omega)) _ | with_reducible refine below_drewN ?_ _ | with_reducible refine Below.drew ?_))) (hb.mono (by first | omega | (simp; done) | (simp; omega)))
                obtain ⟨kc9, kf9⟩ := bcell hb
                have hz9 := hb.size
                (try simp at hz9)
                have n9_0 : w.heap.size < w9.heap.size := by omega
                have n9_1 : w.heap.size + 1 < w9.heap.size := by omega
                have n9_2 : w.heap.size + 2 < w9.heap.size := by omega
                have m9_0 : w9.cell? ⟨w.heap.size, 0, none⟩ = some (.slice A1 l1.length c1) := (kc9 _ _ (by first | assumption | (simp; done) | omega | (simp; omega))).trans (by first | assumption | (simp [go_sem]; done))
                have v9_0 : w9.frozen? ⟨w.heap.size, 0, none⟩ = false := (kf9 _ _ (by first | assumption | (simp; done) | omega | (simp; omega))).trans (by first | assumption | (simp [go_sem]; done))
                have m9_1 : w9.cell? ⟨w.heap.size, 1, none⟩ = some (.bool s1) := (kc9 _ _ (by first | assumption | (simp; done) | omega | (simp; omega))).trans (by first | assumption | (simp [go_sem]; done))
                have v9_1 : w9.frozen? ⟨w.heap.size, 1, none⟩ = false := (kf9 _ _ (by first | assumption | (simp; done) | omega | (simp; omega))).trans (by first | assumption | (simp [go_sem]; done))
                have m9_2 : w9.cell? ⟨w.heap.size + 1, 0, none⟩ = some (.slice A2 l2.length c2) := (kc9 _ _ (by first | assumption | (simp; done) | omega | (simp; omega))).trans (by first | assumption | (simp [go_sem]; done))
                have v9_2 : w9.frozen? ⟨w.heap.size + 1, 0, none⟩ = false := (kf9 _ _ (by first | assumption | (simp; done) | omega | (simp; omega))).trans (by first | assumption | (simp [go_sem]; done))
                have m9_3 : w9.cell? ⟨w.heap.size + 1, 1, none⟩ = some (.bool s2) := (kc9 _ _ (by first | assumption | (simp; done) | omega | (simp; omega))).trans (by first | assumption | (simp [go_sem]; done))
                have v9_3 : w9.frozen? ⟨w.heap.size + 1, 1, none⟩ = false := (kf9 _ _ (by first | assumption | (simp; done) | omega | (simp; omega))).trans (by first | assumption | (simp [go_sem]; done))
                have m9_4 : w9.cell? ⟨w.heap.size + 2, 0, none⟩ = some (.slice none 0 0) := (kc9 _ _ (by first | assumption | (simp; done) | omega | (simp; omega))).trans (by first | assumption | (simp [go_sem]; done))
                have v9_4 : w9.frozen? ⟨w.heap.size + 2, 0, none⟩ = false := (kf9 _ _ (by first | assumption | (simp; done) | omega | (simp; omega))).trans (by first | assumption | (simp [go_sem]; done))
                have m9_5 : w9.cell? ⟨w.heap.size + 2, 1, none⟩ = some (.bool false) := (kc9 _ _ (by first | assumption | (simp; done) | omega | (simp; omega))).trans (by first | assumption | (simp [go_sem]; done))
                have v9_5 : w9.frozen? ⟨w.heap.size + 2, 1, none⟩ = false := (kf9 _ _ (by first | assumption | (simp; done) | omega | (simp; omega))).trans (by first | assumption | (simp [go_sem]; done))
                clear kc9 kf9
                clear hb
                refine anyT_ready (rs := [10]) (by kernel_rfl) (by simp) ?_
                refine ReadyT.tail (o := _) rfl (by decide) (fun K hK => ?_)
                go_simp
                refine hK.out _ _ ?_
                clear hK K
                (try simp only [Act.put, List.getElem_toArray, List.getElem_cons_zero, List.getElem_cons_succ, List.setIfInBounds_toArray, List.set_cons_zero, List.set_cons_succ])
                refine anyT_done (by kernel_rfl) ?_ _
                go_wp2
                refine bodyPost_ret (v := .agg #[.slice A3 l3.length c3, .bool s3]) (by simp [results, Tryz.results61, go_sem, *]) rfl ?_
                exact ⟨l3, s3, A3, c3, hide (E3.out.trans (by rw [HR.out, Ep.out, em2.out, Em.out, Ek.out]; simp)), rfl, C3, hide (OwQ.base (B := w.heap.size + 3) (by (repeat (first | with_reducible exact O3.out | with_reducible refine OwQ.far ?_ (by first | (simp; done) | omega | (simp; omega)) _ | with_reducible refine OwQ.allc ?_ _ | with_reducible refine OwQ.drew ?_ | with_reducible refine OwQ.drewN ?_ _))) (by omega)), by (repeat (first | with_reducible exact Below.refl _ _ | with_reducible assumption | with_reducible refine Below.setCell ?_ (by first | (simp; done) | omega | (simp; omega)) _ | with_reducible refine Below.alloc ?_ (by first | (simp; done) | omega | (simp; omega)) _ | with_reducible refine below_drewN ?_ _ | with_reducible refine Below.drew ?_))⟩
              · have b1 : (L != 1) = true := by simpa using h1
                have b2 : (L != -1) = true := by simpa using hm
                have H1 := hide h1
                have HM := hide hm
                clear h1 hm hlo hhi
                go_wp2_with fail
                refine (hTr.out _ (by refine RG.rd (B0 := w.heap.size) (B1 := w.heap.size + 3) ?_; (repeat (first | with_reducible exact O1.out | with_reducible refine RG.setc ?_ (by first | (simp; done) | omega | (simp; omega)) (by first | (simp; done) | omega | (simp; omega)) _ | with_reducible refine RG.allc ?_ _ | with_reducible refine RG.drew ?_ | with_reducible refine RG.drewN ?_ _))) (by (repeat (first | with_reducible exact Below.refl _ _ | with_reducible assumption | with_reducible refine Below.setCell ?_ (by first | (simp; done) | omega | (simp; omega)) _ | with_reducible refine Below.alloc ?_ (by first | (simp; done) | omega | (simp; omega)) _ | with_reducible refine below_drewN ?_ _ | with_reducible refine Below.drew ?_)))).mono ?_
                rintro e w5 ⟨rfl, hb⟩
                replace O1 := hide ((show RG w.heap.size (w.heap.size + 3) _ A1 l1 by (repeat (first | with_reducible exact O1.out | with_reducible refine RG.setc ?_ (by first | (simp; done) | omega | (simp; omega)) (by first | (simp; done) | omega | (simp; omega)) _ | with_reducible refine RG.allc ?_ _ | with_reducible refine RG.drew ?_ | with_reducible refine RG.drewN ?_ _))).kept hb)
                replace O2 := hide ((show RG w.heap.size (w.heap.size + 3) _ A2 l2 by (repeat (first | with_reducible exact O2.out | with_reducible refine RG.setc ?_ (by first | (simp; done) | omega | (simp; omega)) (by first | (simp; done) | omega | (simp; omega)) _ | with_reducible refine RG.allc ?_ _ | with_reducible refine RG.drew ?_ | with_reducible refine RG.drewN ?_ _))).kept hb)
                have hB5 : Below w.heap.size w w5 := Below.trans (by (repeat (first | with_reducible exact Below.refl _ _ | with_reducible assumption | with_reducible refine Below.setCell ?_ (by first | (simp; done) | omega | (simp; omega)) _ | with_reducible refine Below.alloc ?_ (by first | (simp; done) | omega | (simp; omega)) _ | with_reducible refine below_drewN ?_ _ | with_reducible refine Below.drew ?_))) (hb.mono (by first | omega | (simp; done) | (simp; omega)))
                obtain ⟨kc5, kf5⟩ := bcell hb
                have hz5 := hb.size
                (try simp at hz5)
                have n5_0 : w.heap.size < w5.heap.size := by omega
                have n5_1 : w.heap.size + 1 < w5.heap.size := by omega
                have n5_2 : w.heap.size + 2 < w5.heap.size := by omega
                have m5_0 : w5.cell? ⟨w.heap.size, 0, none⟩ = some (.slice A1 l1.length c1) := (kc5 _ _ (by first | assumption | (simp; done) | omega | (simp; omega))).trans (by first | assumption | (simp [go_sem]; done))
                have v5_0 : w5.frozen? ⟨w.heap.size, 0, none⟩ = false := (kf5 _ _ (by first | assumption | (simp; done) | omega | (simp; omega))).trans (by first | assumption | (simp [go_sem]; done))
                have m5_1 : w5.cell? ⟨w.heap.size, 1, none⟩ = some (.bool s1) := (kc5 _ _ (by first | assumption | (simp; done) | omega | (simp; omega))).trans (by first | assumption | (simp [go_sem]; done))
                have v5_1 : w5.frozen? ⟨w.heap.size, 1, none⟩ = false := (kf5 _ _ (by first | assumption | (simp; done) | omega | (simp; omega))).trans (by first | assumption | (simp [go_sem]; done))
                have m5_2 : w5.cell? ⟨w.heap.size + 1, 0, none⟩ = some (.slice A2 l2.length c2) := (kc5 _ _ (by first | assumption | (simp; done) | omega | (simp; omega))).trans (by first | assumption | (simp [go_sem]; done))
                have v5_2 : w5.frozen? ⟨w.heap.size + 1, 0, none⟩ = false := (kf5 _ _ (by first | assumption | (simp; done) | omega | (simp; omega))).trans (by first | assumption | (simp [go_sem]; done))
                have m5_3 : w5.cell? ⟨w.heap.size + 1, 1, none⟩ = some (.bool s2) := (kc5 _ _ (by first | assumption | (simp; done) | omega | (simp; omega))).trans (by first | assumption | (simp [go_sem]; done))
                have v5_3 : w5.frozen? ⟨w.heap.size + 1, 1, none⟩ = false := (kf5 _ _ (by first | assumption | (simp; done) | omega | (simp; omega))).trans (by first | assumption | (simp [go_sem]; done))
                have m5_4 : w5.cell? ⟨w.heap.size + 2, 0, none⟩ = some (.slice none 0 0) := (kc5 _ _ (by first | assumption | (simp; done) | omega | (simp; omega))).trans (by first | assumption | (simp [go_sem]; done))
                have v5_4 : w5.frozen? ⟨w.heap.size + 2, 0, none⟩ = false := (kf5 _ _ (by first | assumption | (simp; done) | omega | (simp; omega))).trans (by first | assumption | (simp [go_sem]; done))
                have m5_5 : w5.cell? ⟨w.heap.size + 2, 1, none⟩ = some (.bool false) := (kc5 _ _ (by first | assumption | (simp; done) | omega | (simp; omega))).trans (by first | assumption | (simp [go_sem]; done))
                have v5_5 : w5.frozen? ⟨w.heap.size + 2, 1, none⟩ = false := (kf5 _ _ (by first | assumption | (simp; done) | omega | (simp; omega))).trans (by first | assumption | (simp [go_sem]; done))
                clear kc5 kf5
                clear hb
                go_wp2_with fail
                refine region_anyT (S := fun wS => Below w5.heap.size w5 wS) (n := 7) (by kernel_rfl) (Below.refl _ _).drew (fun hS inv => ?_)
                refine anyT_take (i := 0) (oi := _) (v := Value.pointer (some ⟨w.heap.size, 0, none⟩)) rfl (by kernel_rfl) (by kernel_rfl) (by kernel_rfl) (by decide) (by decide) (by kernel_rfl) (by kernel_rfl) inv (fun _ _ _ h => h) (Or.inl ⟨by kernel_rfl, ?_⟩) hS (fun inv => ?_)
                · intro wz hSw
                  first | kernel_rfl | go_simp
                (try simp only [Act.put, List.getElem_toArray, List.getElem_cons_zero, List.getElem_cons_succ, List.setIfInBounds_toArray, List.set_cons_zero, List.set_cons_succ])
                refine anyT_take (i := 1) (oi := _) (v := Value.slice A1 l1.length c1) rfl (by kernel_rfl) (by kernel_rfl) (by kernel_rfl) (by decide) (by decide) (by kernel_rfl) (by kernel_rfl) inv (fun _ _ _ h => h) (Or.inl ⟨by kernel_rfl, ?_⟩) hS (fun inv => ?_)
                · intro wz hSw
                  have hk0 := (hSw : Below _ _ _).cell (p := ⟨w.heap.size, 0, none⟩) (by first | assumption | (simp; done) | omega | (simp; omega)); go_simp
                (try simp only [Act.put, List.getElem_toArray, List.getElem_cons_zero, List.getElem_cons_succ, List.setIfInBounds_toArray, List.set_cons_zero, List.set_cons_succ])
                refine anyT_take (i := 2) (oi := _) (v := Value.int IntKind.i64 (l1.length : Nat)) rfl (by kernel_rfl) (by kernel_rfl) (by kernel_rfl) (by decide) (by decide) (by kernel_rfl) (by kernel_rfl) inv (fun _ _ _ h => h) (Or.inl ⟨by kernel_rfl, ?_⟩) hS (fun inv => ?_)
                · intro wz hSw
                  go_simp
                (try simp only [Act.put, List.getElem_toArray, List.getElem_cons_zero, List.getElem_cons_succ, List.setIfInBounds_toArray, List.set_cons_zero, List.set_cons_succ])
                refine anyT_take (i := 4) (oi := _) (v := Value.pointer (some ⟨w.heap.size, 1, none⟩)) rfl (by kernel_rfl) (by kernel_rfl) (by kernel_rfl) (by decide) (by decide) (by kernel_rfl) (by kernel_rfl) inv (fun _ _ _ h => h) (Or.inl ⟨by kernel_rfl, ?_⟩) hS (fun inv => ?_)
                · intro wz hSw
                  first | kernel_rfl | go_simp
                (try simp only [Act.put, List.getElem_toArray, List.getElem_cons_zero, List.getElem_cons_succ, List.setIfInBounds_toArray, List.set_cons_zero, List.set_cons_succ])
                refine anyT_take (i := 5) (oi := _) (v := Value.bool s1) rfl (by kernel_rfl) (by kernel_rfl) (by kernel_rfl) (by decide) (by decide) (by kernel_rfl) (by kernel_rfl) inv (fun _ _ _ h => h) (Or.inl ⟨by kernel_rfl, ?_⟩) hS (fun inv => ?_)
                · intro wz hSw
                  have hk0 := (hSw : Below _ _ _).cell (p := ⟨w.heap.size, 1, none⟩) (by first | assumption | (simp; done) | omega | (simp; omega)); go_simp
                (try simp only [Act.put, List.getElem_toArray, List.getElem_cons_zero, List.getElem_cons_succ, List.setIfInBounds_toArray, List.set_cons_zero, List.set_cons_succ])
                refine anyT_ready (rs := [3]) (by kernel_rfl) (by simp) ?_
                refine ReadyT.head (o := _) rfl (by decide) (by kernel_rfl) inv (fun K hK => ?_) ReadyT.nil
                refine step_make_bv (by rfl) _ _ (by rfl) _ _ l1.length (by kernel_rfl) (by kernel_rfl) rfl rfl (by omega) ?_
                intro w6 hrm hb
                refine hK.out _ _ ?_ (fun hS inv => ?_)
                · exact (hS : Below w5.heap.size w5 _).trans (hb.mono (Below.size hS))
                clear hK K
                (try simp only [Act.put, List.getElem_toArray, List.getElem_cons_zero, List.getElem_cons_succ, List.setIfInBounds_toArray, List.set_cons_zero, List.set_cons_succ])
                replace O1 := hide ((show RG w.heap.size (w.heap.size + 3) _ A1 l1 by (repeat (first | with_reducible exact O1.out | with_reducible refine RG.setc ?_ (by first | (simp; done) | omega | (simp; omega)) (by first | (simp; done) | omega | (simp; omega)) _ | with_reducible refine RG.allc ?_ _ | with_reducible refine RG.drew ?_ | with_reducible refine RG.drewN ?_ _))).kept hb)
                replace O2 := hide ((show RG w.heap.size (w.heap.size + 3) _ A2 l2 by (repeat (first | with_reducible exact O2.out | with_reducible refine RG.setc ?_ (by first | (simp; done) | omega | (simp; omega)) (by first | (simp; done) | omega | (simp; omega)) _ | with_reducible refine RG.allc ?_ _ | with_reducible refine RG.drew ?_ | with_reducible refine RG.drewN ?_ _))).kept hb)
                have hB6 : Below w.heap.size w w6 := Below.trans (by (repeat (first | with_reducible exact Below.refl _ _ | with_reducible assumption | with_reducible refine Below.setCell ?_ (by first | (simp; done) | omega | (simp; omega)) _ | with_reducible refine Below.alloc ?_ (by first | (simp; done) | omega | (simp; omega)) _ | with_reducible refine below_drewN ?_ _ | with_reducible refine Below.drew ?_))) (hb.mono (by first | omega | (simp; done) | (simp; omega)))
                obtain ⟨kc6, kf6⟩ := bcell hb
                have hz6 := hb.size
                (try simp at hz6)
                have n6_0 : w.heap.size < w6.heap.size := by omega
                have n6_1 : w.heap.size + 1 < w6.heap.size := by omega
                have n6_2 : w.heap.size + 2 < w6.heap.size := by omega
                have m6_0 : w6.cell? ⟨w.heap.size, 0, none⟩ = some (.slice A1 l1.length c1) := (kc6 _ _ (by first | assumption | (simp; done) | omega | (simp; omega))).trans (by first | assumption | (simp [go_sem]; done))
                have v6_0 : w6.frozen? ⟨w.heap.size, 0, none⟩ = false := (kf6 _ _ (by first | assumption | (simp; done) | omega | (simp; omega))).trans (by first | assumption | (simp [go_sem]; done))
                have m6_1 : w6.cell? ⟨w.heap.size, 1, none⟩ = some (.bool s1) := (kc6 _ _ (by first | assumption | (simp; done) | omega | (simp; omega))).trans (by first | assumption | (simp [go_sem]; done))
                have v6_1 : w6.frozen? ⟨w.heap.size, 1, none⟩ = false := (kf6 _ _ (by first | assumption | (simp; done) | omega | (simp; omega))).trans (by first | assumption | (simp [go_sem]; done))
                have m6_2 : w6.cell? ⟨w.heap.size + 1, 0, none⟩ = some (.slice A2 l2.length c2) := (kc6 _ _ (by first | assumption | (simp; done) | omega | (simp; omega))).trans (by first | assumption | (simp [go_sem]; done))
                have v6_2 : w6.frozen? ⟨w.heap.size + 1, 0, none⟩ = false := (kf6 _ _ (by first | assumption | (simp; done) | omega | (simp; omega))).trans (by first | assumption | (simp [go_sem]; done))
                have m6_3 : w6.cell? ⟨w.heap.size + 1, 1, none⟩ = some (.bool s2) := (kc6 _ _ (by first | assumption | (simp; done) | omega | (simp; omega))).trans (by first | assumption | (simp [go_sem]; done))
                have v6_3 : w6.frozen? ⟨w.heap.size + 1, 1, none⟩ = false := (kf6 _ _ (by first | assumption | (simp; done) | omega | (simp; omega))).trans (by first | assumption | (simp [go_sem]; done))
                have m6_4 : w6.cell? ⟨w.heap.size + 2, 0, none⟩ = some (.slice none 0 0) := (kc6 _ _ (by first | assumption | (simp; done) | omega | (simp; omega))).trans (by first | assumption | (simp [go_sem]; done))
                have v6_4 : w6.frozen? ⟨w.heap.size + 2, 0, none⟩ = false := (kf6 _ _ (by first | assumption | (simp; done) | omega | (simp; omega))).trans (by first | assumption | (simp [go_sem]; done))
                have m6_5 : w6.cell? ⟨w.heap.size + 2, 1, none⟩ = some (.bool false) := (kc6 _ _ (by first | assumption | (simp; done) | omega | (simp; omega))).trans (by first | assumption | (simp [go_sem]; done))
                have v6_5 : w6.frozen? ⟨w.heap.size + 2, 1, none⟩ = false := (kf6 _ _ (by first | assumption | (simp; done) | omega | (simp; omega))).trans (by first | assumption | (simp [go_sem]; done))
                clear kc6 kf6
                clear hb
                obtain ⟨z, hz⟩ : ∃ z, z = bl l1.length fun _ => false := ⟨_, rfl⟩
                have zl : z.length = l1.length := by rw [hz, bl_length]
                have HZ := hide hz
                have OM := hide (show Rd w6 (some ⟨w5.drew.heap.size, 0, none⟩) z from Own.rd (B := 0) (fun _ => ⟨_, rfl, Nat.zero_le _, by rw [zl]; exact hrm.congr fun i hi => by rw [hz, bt_bl_lt hi]⟩))
                have hcall := hide (vector_any (some ⟨w5.drew.heap.size, 0, none⟩) z l1.length s1 w6 (by omega) OM.out)
                rw [zl] at hcall
                clear hz zl hrm OM
                refine anyT_ready (rs := [6]) (by kernel_rfl) (by simp) ?_
                refine ReadyT.head (o := _) rfl (by decide) (by kernel_rfl) inv (fun K hK => ?_) ReadyT.nil
                go_simp
                refine (hcall.out).mono ?_
                rintro e w7 ⟨l3, s3, A3, c3, E3, rfl, C3, O3, hb⟩
                go_wp2_with fail
                refine hK.out _ _ ?_ (fun hS inv => ?_)
                · exact (hS : Below w5.heap.size w5 _).trans (hb.mono (Below.size hS))
                clear hK K
                (try simp only [Act.put, List.getElem_toArray, List.getElem_cons_zero, List.getElem_cons_succ, List.setIfInBounds_toArray, List.set_cons_zero, List.set_cons_succ])
                replace O1 := hide ((show RG w.heap.size (w.heap.size + 3) _ A1 l1 by (repeat (first | with_reducible exact O1.out | with_reducible refine RG.setc ?_ (by first | (simp; done) | omega | (simp; omega)) (by first | (simp; done) | omega | (simp; omega)) _ | with_reducible refine RG.allc ?_ _ | with_reducible refine RG.drew ?_ | with_reducible refine RG.drewN ?_ _))).kept hb)
                replace O2 := hide ((show RG w.heap.size (w.heap.size + 3) _ A2 l2 by (repeat (first | with_reducible exact O2.out | with_reducible refine RG.setc ?_ (by first | (simp; done) | omega | (simp; omega)) (by first | (simp; done) | omega | (simp; omega)) _ | with_reducible refine RG.allc ?_ _ | with_reducible refine RG.drew ?_ | with_reducible refine RG.drewN ?_ _))).kept hb)
                replace O3 := hide (O3.out.base (show w.heap.size + 3 ≤ _ by first | omega | (simp; omega) | (simp; done)))
                have hB7 : Below w.heap.size w w7 := Below.trans (by (repeat (first | with_reducible exact Below.refl _ _ | with_reducible assumption | with_reducible refine Below.setCell ?_ (by first | (simp; done) | omega | (simp; omega)) _ | with_reducible refine Below.alloc ?_ (by first | (simp; done) | omega | (simp; omega)) _ | with_reducible refine below_drewN ?_ _ | with_reducible refine Below.drew ?_))) (hb.mono (by first | omega | (simp; done) | (simp; omega)))
                obtain ⟨kc7, kf7⟩ := bcell hb
                have hz7 := hb.size
                (try simp at hz7)
                have n7_0 : w.heap.size < w7.heap.size := by omega
                have n7_1 : w.heap.size + 1 < w7.heap.size := by omega
                have n7_2 : w.heap.size + 2 < w7.heap.size := by omega
                have m7_0 : w7.cell? ⟨w.heap.size, 0, none⟩ = some (.slice A1 l1.length c1) := (kc7 _ _ (by first | assumption | (simp; done) | omega | (simp; omega))).trans (by first | assumption | (simp [go_sem]; done))
                have v7_0 : w7.frozen? ⟨w.heap.size, 0, none⟩ = false := (kf7 _ _ (by first | assumption | (simp; done) | omega | (simp; omega))).trans (by first | assumption | (simp [go_sem]; done))
                have m7_1 : w7.cell? ⟨w.heap.size, 1, none⟩ = some (.bool s1) := (kc7 _ _ (by first | assumption | (simp; done) | omega | (simp; omega))).trans (by first | assumption | (simp [go_sem]; done))
                have v7_1 : w7.frozen? ⟨w.heap.size, 1, none⟩ = false := (kf7 _ _ (by first | assumption | (simp; done) | omega | (simp; omega))).trans (by first | assumption | (simp [go_sem]; done))
                have m7_2 : w7.cell? ⟨w.heap.size + 1, 0, none⟩ = some (.slice A2 l2.length c2) := (kc7 _ _ (by first | assumption | (simp; done) | omega | (simp; omega))).trans (by first | assumption | (simp [go_sem]; done))
                have v7_2 : w7.frozen? ⟨w.heap.size + 1, 0, none⟩ = false := (kf7 _ _ (by first | assumption | (simp; done) | omega | (simp; omega))).trans (by first | assumption | (simp [go_sem]; done))
                have m7_3 : w7.cell? ⟨w.heap.size + 1, 1, none⟩ = some (.bool s2) := (kc7 _ _ (by first | assumption | (simp; done) | omega | (simp; omega))).trans (by first | assumption | (simp [go_sem]; done))
                have v7_3 : w7.frozen? ⟨w.heap.size + 1, 1, none⟩ = false := (kf7 _ _ (by first | assumption | (simp; done) | omega | (simp; omega))).trans (by first | assumption | (simp [go_sem]; done))
                have m7_4 : w7.cell? ⟨w.heap.size + 2, 0, none⟩ = some (.slice none 0 0) := (kc7 _ _ (by first | assumption | (simp; done) | omega | (simp; omega))).trans (by first | assumption | (simp [go_sem]; done))
                have v7_4 : w7.frozen? ⟨w.heap.size + 2, 0, none⟩ = false := (kf7 _ _ (by first | assumption | (simp; done) | omega | (simp; omega))).trans (by first | assumption | (simp [go_sem]; done))
                have m7_5 : w7.cell? ⟨w.heap.size + 2, 1, none⟩ = some (.bool false) := (kc7 _ _ (by first | assumption | (simp; done) | omega | (simp; omega))).trans (by first | assumption | (simp [go_sem]; done))
                have v7_5 : w7.frozen? ⟨w.heap.size + 2, 1, none⟩ = false := (kf7 _ _ (by first | assumption | (simp; done) | omega | (simp; omega))).trans (by first | assumption | (simp [go_sem]; done))
                clear kc7 kf7
                clear hb
                refine anyT_ready (rs := [7]) (by kernel_rfl) (by simp) ?_
                refine ReadyT.tail (o := _) rfl (by decide) (fun K hK => ?_)
                go_simp
                refine hK.out _ _ ?_
                clear hK K
                (try simp only [Act.put, List.getElem_toArray, List.getElem_cons_zero, List.getElem_cons_succ, List.setIfInBounds_toArray, List.set_cons_zero, List.set_cons_succ])
                refine anyT_done (by kernel_rfl) ?_ _
                go_wp2
                refine bodyPost_ret (v := .agg #[.slice A3 l3.length c3, .bool s3]) (by simp [results, Tryz.results61, go_sem, *]) rfl ?_
                exact ⟨l3, s3, A3, c3, hide (E3.out.trans (by rw [HR.out, HZ.out, zr_fb]; unfold zr; rw [cnt_of_gd (v := ⟨l1, s1⟩) HG1.out]; simp [H0.out, H1.out, HM.out])), rfl, C3, hide (OwQ.base (B := w.heap.size + 3) (by (repeat (first | with_reducible exact O3.out | with_reducible refine OwQ.far ?_ (by first | (simp; done) | omega | (simp; omega)) _ | with_reducible refine OwQ.allc ?_ _ | with_reducible refine OwQ.drew ?_ | with_reducible refine OwQ.drewN ?_ _))) (by omega)), by (repeat (first | with_reducible exact Below.refl _ _ | with_reducible assumption | with_reducible refine Below.setCell ?_ (by first | (simp; done) | omega | (simp; omega)) _ | with_reducible refine Below.alloc ?_ (by first | (simp; done) | omega | (simp; omega)) _ | with_reducible refine below_drewN ?_ _ | with_reducible refine Below.drew ?_))⟩
        · have t0 : (T == 0) = false := by simpa using fun h => h0 (HTR.out.1 h)
          have H0 := hide h0
          have H1 := hide h1
          have HM := hide hm
          clear h0 h1 hm
          go_wp2_with fail
          refine (hTr.out _ (by refine RG.rd (B0 := w.heap.size) (B1 := w.heap.size + 3) ?_; (repeat (first | with_reducible exact O1.out | with_reducible refine RG.setc ?_ (by first | (simp; done) | omega | (simp; omega)) (by first | (simp; done) | omega | (simp; omega)) _ | with_reducible refine RG.allc ?_ _ | with_reducible refine RG.drew ?_ | with_reducible refine RG.drewN ?_ _))) (by (repeat (first | with_reducible exact Below.refl _ _ | with_reducible assumption | with_reducible refine Below.setCell ?_ (by first | (simp; done) | omega | (simp; omega)) _ | with_reducible refine Below.alloc ?_ (by first | (simp; done) | omega | (simp; omega)) _ | with_reducible refine below_drewN ?_ _ | with_reducible refine Below.drew ?_)))).mono ?_
          rintro e w5 ⟨rfl, hb⟩
          replace O1 := hide ((show RG w.heap.size (w.heap.size + 3) _ A1 l1 by (repeat (first | with_reducible exact O1.out | with_reducible refine RG.setc ?_ (by first | (simp; done) | omega | (simp; omega)) (by first | (simp; done) | omega | (simp; omega)) _ | with_reducible refine RG.allc ?_ _ | with_reducible refine RG.drew ?_ | with_reducible refine RG.drewN ?_ _))).kept hb)
          replace O2 := hide ((show RG w.heap.size (w.heap.size + 3) _ A2 l2 by (repeat (first | with_reducible exact O2.out | with_reducible refine RG.setc ?_ (by first | (simp; done) | omega | (simp; omega)) (by first | (simp; done) | omega | (simp; omega)) _ | with_reducible refine RG.allc ?_ _ | with_reducible refine RG.drew ?_ | with_reducible refine RG.drewN ?_ _))).kept hb)
          have hB5 : Below w.heap.size w w5 := Below.trans (by (repeat (first | with_reducible exact Below.refl _ _ | with_reducible assumption | with_reducible refine Below.setCell ?_ (by first | (simp; done) | omega | (simp; omega)) _ | with_reducible refine Below.alloc ?_ (by first | (simp; done) | omega | (simp; omega)) _ | with_reducible refine below_drewN ?_ _ | with_reducible refine Below.drew ?_))) (hb.mono (by first | omega | (simp; done) | (simp; omega)))
          obtain ⟨kc5, kf5⟩ := bcell hb
          have hz5 := hb.size
          (try simp at hz5)
          have n5_0 : w.heap.size < w5.heap.size := by omega
          have n5_1 : w.heap.size + 1 < w5.heap.size := by omega
          have n5_2 : w.heap.size + 2 < w5.heap.size := by omega
          have m5_0 : w5.cell? ⟨w.heap.size, 0, none⟩ = some (.slice A1 l1.length c1) := (kc5 _ _ (by first | assumption | (simp; done) | omega | (simp; omega))).trans (by first | assumption | (simp [go_sem]; done))
          have v5_0 : w5.frozen? ⟨w.heap.size, 0, none⟩ = false := (kf5 _ _ (by first | assumption | (simp; done) | omega | (simp; omega))).trans (by first | assumption | (simp [go_sem]; done))
          have m5_1 : w5.cell? ⟨w.heap.size, 1, none⟩ = some (.bool s1) := (kc5 _ _ (by first | assumption | (simp; done) | omega | (simp; omega))).trans (by first | assumption | (simp [go_sem]; done))
          have v5_1 : w5.frozen? ⟨w.heap.size, 1, none⟩ = false := (kf5 _ _ (by first | assumption | (simp; done) | omega | (simp; omega))).trans (by first | assumption | (simp [go_sem]; done))
          have m5_2 : w5.cell? ⟨w.heap.size + 1, 0, none⟩ = some (.slice A2 l2.length c2) := (kc5 _ _ (by first | assumption | (simp; done) | omega | (simp; omega))).trans (by first | assumption | (simp [go_sem]; done))
          have v5_2 : w5.frozen? ⟨w.heap.size + 1, 0, none⟩ = false := (kf5 _ _ (by first | assumption | (simp; done) | omega | (simp; omega))).trans (by first | assumption | (simp [go_sem]; done))
          have m5_3 : w5.cell? ⟨w.heap.size + 1, 1, none⟩ = some (.bool s2) := (kc5 _ _ (by first | assumption | (simp; done) | omega | (simp; omega))).trans (by first | assumption | (simp [go_sem]; done))
          have v5_3 : w5.frozen? ⟨w.heap.size + 1, 1, none⟩ = false := (kf5 _ _ (by first | assumption | (simp; done) | omega | (simp; omega))).trans (by first | assumption | (simp [go_sem]; done))
          have m5_4 : w5.cell? ⟨w.heap.size + 2, 0, none⟩ = some (.slice none 0 0) := (kc5 _ _ (by first | assumption | (simp; done) | omega | (simp; omega))).trans (by first | assumption | (simp [go_sem]; done))
          have v5_4 : w5.frozen? ⟨w.heap.size + 2, 0, none⟩ = false := (kf5 _ _ (by first | assumption | (simp; done) | omega | (simp; omega))).trans (by first | assumption | (simp [go_sem]; done))
          have m5_5 : w5.cell? ⟨w.heap.size + 2, 1, none⟩ = some (.bool false) := (kc5 _ _ (by first | assumption | (simp; done) | omega | (simp; omega))).trans (by first | assumption | (simp [go_sem]; done))
          have v5_5 : w5.frozen? ⟨w.heap.size + 2, 1, none⟩ = false := (kf5 _ _ (by first | assumption | (simp; done) | omega | (simp; omega))).trans (by first | assumption | (simp [go_sem]; done))
          clear kc5 kf5
          clear hb
          go_wp2_with fail
          refine region_anyT (S := fun wS => Below w5.heap.size w5 wS) (n := 7) (by kernel_rfl) (Below.refl _ _).drew (fun hS inv => ?_)
          refine anyT_take (i := 0) (oi := _) (v := Value.pointer (some ⟨w.heap.size, 0, none⟩)) rfl (by kernel_rfl) (by kernel_rfl) (by kernel_rfl) (by decide) (by decide) (by kernel_rfl) (by kernel_rfl) inv (fun _ _ _ h => h) (Or.inl ⟨by kernel_rfl, ?_⟩) hS (fun inv => ?_)
          · intro wz hSw
            first | kernel_rfl | go_simp
          (try simp only [Act.put, List.getElem_toArray, List.getElem_cons_zero, List.getElem_cons_succ, List.setIfInBounds_toArray, List.set_cons_zero, List.set_cons_succ])
          refine anyT_take (i := 1) (oi := _) (v := Value.slice A1 l1.length c1) rfl (by kernel_rfl) (by kernel_rfl) (by kernel_rfl) (by decide) (by decide) (by kernel_rfl) (by kernel_rfl) inv (fun _ _ _ h => h) (Or.inl ⟨by kernel_rfl, ?_⟩) hS (fun inv => ?_)
          · intro wz hSw
            have hk0 := (hSw : Below _ _ _).cell (p := ⟨w.heap.size, 0, none⟩) (by first | assumption | (simp; done) | omega | (simp; omega)); go_simp
          (try simp only [Act.put, List.getElem_toArray, List.getElem_cons_zero, List.getElem_cons_succ, List.setIfInBounds_toArray, List.set_cons_zero, List.set_cons_succ])
          refine anyT_take (i := 2) (oi := _) (v := Value.int IntKind.i64 (l1.length : Nat)) rfl (by kernel_rfl) (by kernel_rfl) (by kernel_rfl) (by decide) (by decide) (by kernel_rfl) (by kernel_rfl) inv (fun _ _ _ h => h) (Or.inl ⟨by kernel_rfl, ?_⟩) hS (fun inv => ?_)
          · intro wz hSw
            go_simp
          (try simp only [Act.put, List.getElem_toArray, List.getElem_cons_zero, List.getElem_cons_succ, List.setIfInBounds_toArray, List.set_cons_zero, List.set_cons_succ])
          refine anyT_take (i := 4) (oi := _) (v := Value.pointer (some ⟨w.heap.size, 1, none⟩)) rfl (by kernel_rfl) (by kernel_rfl) (by kernel_rfl) (by decide) (by decide) (by kernel_rfl) (by kernel_rfl) inv (fun _ _ _ h => h) (Or.inl ⟨by kernel_rfl, ?_⟩) hS (fun inv => ?_)
          · intro wz hSw
            first | kernel_rfl | go_simp
          (try simp only [Act.put, List.getElem_toArray, List.getElem_cons_zero, List.getElem_cons_succ, List.setIfInBounds_toArray, List.set_cons_zero, List.set_cons_succ])
          refine anyT_take (i := 5) (oi := _) (v := Value.bool s1) rfl (by kernel_rfl) (by kernel_rfl) (by kernel_rfl) (by decide) (by decide) (by kernel_rfl) (by kernel_rfl) inv (fun _ _ _ h => h) (Or.inl ⟨by kernel_rfl, ?_⟩) hS (fun inv => ?_)
          · intro wz hSw
            have hk0 := (hSw : Below _ _ _).cell (p := ⟨w.heap.size, 1, none⟩) (by first | assumption | (simp; done) | omega | (simp; omega)); go_simp
          (try simp only [Act.put, List.getElem_toArray, List.getElem_cons_zero, List.getElem_cons_succ, List.setIfInBounds_toArray, List.set_cons_zero, List.set_cons_succ])
          refine anyT_ready (rs := [3]) (by kernel_rfl) (by simp) ?_
          refine ReadyT.head (o := _) rfl (by decide) (by kernel_rfl) inv (fun K hK => ?_) ReadyT.nil
          refine step_make_bv (by rfl) _ _ (by rfl) _ _ l1.length (by kernel_rfl) (by kernel_rfl) rfl rfl (by omega) ?_
          intro w6 hrm hb
          refine hK.out _ _ ?_ (fun hS inv => ?_)
          · exact (hS : Below w5.heap.size w5 _).trans (hb.mono (Below.size hS))
          clear hK K
          (try simp only [Act.put, List.getElem_toArray, List.getElem_cons_zero, List.getElem_cons_succ, List.setIfInBounds_toArray, List.set_cons_zero, List.set_cons_succ])
          replace O1 := hide ((show RG w.heap.size (w.heap.size + 3) _ A1 l1 by (repeat (first | with_reducible exact O1.out | with_reducible refine RG.setc ?_ (by first | (simp; done) | omega | (simp; omega)) (by first | (simp; done) | omega | (simp; omega)) _ | with_reducible refine RG.allc ?_ _ | with_reducible refine RG.drew ?_ | with_reducible refine RG.drewN ?_ _))).kept hb)
          replace O2 := hide ((show RG w.heap.size (w.heap.size + 3) _ A2 l2 by (repeat (first | with_reducible exact O2.out | with_reducible refine RG.setc ?_ (by first | (simp; done) | omega | (simp; omega)) (by first | (simp; done) | omega | (simp; omega)) _ | with_reducible refine RG.allc ?_ _ | with_reducible refine RG.drew ?_ | with_reducible refine RG.drewN ?_ _))).kept hb)
          have hB6 : Below w.heap.size w w6 := Below.trans (by (repeat (first | with_reducible exact Below.refl _ _ | with_reducible assumption | with_reducible refine Below.setCell ?_ (by first | (simp; done) | omega | (simp; omega)) _ | with_reducible refine Below.alloc ?_ (by first | (simp; done) | omega | (simp; omega)) _ | with_reducible refine below_drewN ?_ _ | with_reducible refine Below.drew ?_))) (hb.mono (by first | omega | (simp; done) | (simp; omega)))
          obtain ⟨kc6, kf6⟩ := bcell hb
          have hz6 := hb.size
          (try simp at hz6)
          have n6_0 : w.heap.size < w6.heap.size := by omega
          have n6_1 : w.heap.size + 1 < w6.heap.size := by omega
          have n6_2 : w.heap.size + 2 < w6.heap.size := by omega
          have m6_0 : w6.cell? ⟨w.heap.size, 0, none⟩ = some (.slice A1 l1.length c1) := (kc6 _ _ (by first | assumption | (simp; done) | omega | (simp; omega))).trans (by first | assumption | (simp [go_sem]; done))
          have v6_0 : w6.frozen? ⟨w.heap.size, 0, none⟩ = false := (kf6 _ _ (by first | assumption | (simp; done) | omega | (simp; omega))).trans (by first | assumption | (simp [go_sem]; done))
          have m6_1 : w6.cell? ⟨w.heap.size, 1, none⟩ = some (.bool s1) := (kc6 _ _ (by first | assumption | (simp; done) | omega | (simp; omega))).trans (by first | assumption | (simp [go_sem]; done))
          have v6_1 : w6.frozen? ⟨w.heap.size, 1, none⟩ = false := (kf6 _ _ (by first | assumption | (simp; done) | omega | (simp; omega))).trans (by first | assumption | (simp [go_sem]; done))
          have m6_2 : w6.cell? ⟨w.heap.size + 1, 0, none⟩ = some (.slice A2 l2.length c2) := (kc6 _ _ (by first | assumption | (simp; done) | omega | (simp; omega))).trans (by first | assumption | (simp [go_sem]; done))
          have v6_2 : w6.frozen? ⟨w.heap.size + 1, 0, none⟩ = false := (kf6 _ _ (by first | assumption | (simp; done) | omega | (simp; omega))).trans (by first | assumption | (simp [go_sem]; done))
          have m6_3 : w6.cell? ⟨w.heap.size + 1, 1, none⟩ = some (.bool s2) := (kc6 _ _ (by first | assumption | (simp; done) | omega | (simp; omega))).trans (by first | assumption | (simp [go_sem]; done))
          have v6_3 : w6.frozen? ⟨w.heap.size + 1, 1, none⟩ = false := (kf6 _ _ (by first | assumption | (simp; done) | omega | (simp; omega))).trans (by first | assumption | (simp [go_sem]; done))
          have m6_4 : w6.cell? ⟨w.heap.size + 2, 0, none⟩ = some (.slice none 0 0) := (kc6 _ _ (by first | assumption | (simp; done) | omega | (simp; omega))).trans (by first | assumption | (simp [go_sem]; done))
          have v6_4 : w6.frozen? ⟨w.heap.size + 2, 0, none⟩ = false := (kf6 _ _ (by first | assumption | (simp; done) | omega | (simp; omega))).trans (by first | assumption | (simp [go_sem]; done))
          have m6_5 : w6.cell? ⟨w.heap.size + 2, 1, none⟩ = some (.bool false) := (kc6 _ _ (by first | assumption | (simp; done) | omega | (simp; omega))).trans (by first | assumption | (simp [go_sem]; done))
          have v6_5 : w6.frozen? ⟨w.heap.size + 2, 1, none⟩ = false := (kf6 _ _ (by first | assumption | (simp; done) | omega | (simp; omega))).trans (by first | assumption | (simp [go_sem]; done))
          clear kc6 kf6
          clear hb
          obtain ⟨z, hz⟩ : ∃ z, z = bl l1.length fun _ => false := ⟨_, rfl⟩
          have zl : z.length = l1.length := by rw [hz, bl_length]
          have HZ := hide hz
          have OM := hide (show Rd w6 (some ⟨w5.drew.heap.size, 0, none⟩) z from Own.rd (B := 0) (fun _ => ⟨_, rfl, Nat.zero_le _, by rw [zl]; exact hrm.congr fun i hi => by rw [hz, bt_bl_lt hi]⟩))
          have hcall := hide (vector_any (some ⟨w5.drew.heap.size, 0, none⟩) z l1.length s1 w6 (by omega) OM.out)
          rw [zl] at hcall
          clear hz zl hrm OM
          refine anyT_ready (rs := [6]) (by kernel_rfl) (by simp) ?_
          refine ReadyT.head (o := _) rfl (by decide) (by kernel_rfl) inv (fun K hK => ?_) ReadyT.nil
          go_simp
          refine (hcall.out).mono ?_
          rintro e w7 ⟨l3, s3, A3, c3, E3, rfl, C3, O3, hb⟩
          go_wp2_with fail
          refine hK.out _ _ ?_ (fun hS inv => ?_)
          · exact (hS : Below w5.heap.size w5 _).trans (hb.mono (Below.size hS))
          clear hK K
          (try simp only [Act.put, List.getElem_toArray, List.getElem_cons_zero, List.getElem_cons_succ, List.setIfInBounds_toArray, List.set_cons_zero, List.set_cons_succ])
          replace O1 := hide ((show RG w.heap.size (w.heap.size + 3) _ A1 l1 by (repeat (first | with_reducible exact O1.out | with_reducible refine RG.setc ?_ (by first | (simp; done) | omega | (simp; omega)) (by first | (simp; done) | omega | (simp; omega)) _ | with_reducible refine RG.allc ?_ _ | with_reducible refine RG.drew ?_ | with_reducible refine RG.drewN ?_ _))).kept hb)
          replace O2 := hide ((show RG w.heap.size (w.heap.size + 3) _ A2 l2 by (repeat (first | with_reducible exact O2.out | with_reducible refine RG.setc ?_ (by first | (simp; done) | omega | (simp; omega)) (by first | (simp; done) | omega | (simp; omega)) _ | with_reducible refine RG.allc ?_ _ | with_reducible refine RG.drew ?_ | with_reducible refine RG.drewN ?_ _))).kept hb)
          replace O3 := hide (O3.out.base (show w.heap.size + 3 ≤ _ by first | omega | (simp; omega) | (simp; done)))
          have hB7 : Below w.heap.size w w7 := Below.trans (by (repeat (first | with_reducible exact Below.refl _ _ | with_reducible assumption | with_reducible refine Below.setCell ?_ (by first | (simp; done) | omega | (simp; omega)) _ | with_reducible refine Below.alloc ?_ (by first | (simp; done) | omega | (simp; omega)) _ | with_reducible refine below_drewN ?_ _ | with_reducible refine Below.drew ?_))) (hb.mono (by first | omega | (simp; done) | (simp; omega)))
          obtain ⟨kc7, kf7⟩ := bcell hb
          have hz7 := hb.size
          (try simp at hz7)
          have n7_0 : w.heap.size < w7.heap.size := by omega
          have n7_1 : w.heap.size + 1 < w7.heap.size := by omega
          have n7_2 : w.heap.size + 2 < w7.heap.size := by omega
          have m7_0 : w7.cell? ⟨w.heap.size, 0, none⟩ = some (.slice A1 l1.length c1) := (kc7 _ _ (by first | assumption | (simp; done) | omega | (simp; omega))).trans (by first | assumption | (simp [go_sem]; done))
          have v7_0 : w7.frozen? ⟨w.heap.size, 0, none⟩ = false := (kf7 _ _ (by first | assumption | (simp; done) | omega | (simp; omega))).trans (by first | assumption | (simp [go_sem]; done))
          have m7_1 : w7.cell? ⟨w.heap.size, 1, none⟩ = some (.bool s1) := (kc7 _ _ (by first | assumption | (simp; done) | omega | (simp; omega))).trans (by first | assumption | (simp [go_sem]; done))
          have v7_1 : w7.frozen? ⟨w.heap.size, 1, none⟩ = false := (kf7 _ _ (by first | assumption | (simp; done) | omega | (simp; omega))).trans (by first | assumption | (simp [go_sem]; done))
          have m7_2 : w7.cell? ⟨w.heap.size + 1, 0, none⟩ = some (.slice A2 l2.length c2) := (kc7 _ _ (by first | assumption | (simp; done) | omega | (simp; omega))).trans (by first | assumption | (simp [go_sem]; done))
          have v7_2 : w7.frozen? ⟨w.heap.size + 1, 0, none⟩ = false := (kf7 _ _ (by first | assumption | (simp; done) | omega | (simp; omega))).trans (by first | assumption | (simp [go_sem]; done))
          have m7_3 : w7.cell? ⟨w.heap.size + 1, 1, none⟩ = some (.bool s2) := (kc7 _ _ (by first | assumption | (simp; done) | omega | (simp; omega))).trans (by first | assumption | (simp [go_sem]; done))
          have v7_3 : w7.frozen? ⟨w.heap.size + 1, 1, none⟩ = false := (kf7 _ _ (by first | assumption | (simp; done) | omega | (simp; omega))).trans (by first | assumption | (simp [go_sem]; done))
          have m7_4 : w7.cell? ⟨w.heap.size + 2, 0, none⟩ = some (.slice none 0 0) := (kc7 _ _ (by first | assumption | (simp; done) | omega | (simp; omega))).trans (by first | assumption | (simp [go_sem]; done))
          have v7_4 : w7.frozen? ⟨w.heap.size + 2, 0, none⟩ = false := (kf7 _ _ (by first | assumption | (simp; done) | omega | (simp; omega))).trans (by first | assumption | (simp [go_sem]; done))
          have m7_5 : w7.cell? ⟨w.heap.size + 2, 1, none⟩ = some (.bool false) := (kc7 _ _ (by first | assumption | (simp; done) | omega | (simp; omega))).trans (by first | assumption | (simp [go_sem]; done))
          have v7_5 : w7.frozen? ⟨w.heap.size + 2, 1, none⟩ = false := (kf7 _ _ (by first | assumption | (simp; done) | omega | (simp; omega))).trans (by first | assumption | (simp [go_sem]; done))
          clear kc7 kf7
          clear hb
          refine anyT_ready (rs := [7]) (by kernel_rfl) (by simp) ?_
          refine ReadyT.tail (o := _) rfl (by decide) (fun K hK => ?_)
          go_simp
          refine hK.out _ _ ?_
          clear hK K
          (try simp only [Act.put, List.getElem_toArray, List.getElem_cons_zero, List.getElem_cons_succ, List.setIfInBounds_toArray, List.set_cons_zero, List.set_cons_succ])
          refine anyT_done (by kernel_rfl) ?_ _
          go_wp2
          refine bodyPost_ret (v := .agg #[.slice A3 l3.length c3, .bool s3]) (by simp [results, Tryz.results61, go_sem, *]) rfl ?_
          exact ⟨l3, s3, A3, c3, hide (E3.out.trans (by rw [HR.out, HZ.out, zr_fb]; unfold zr; rw [cnt_of_gd (v := ⟨l1, s1⟩) HG1.out]; simp [H0.out, H1.out, HM.out])), rfl, C3, hide (OwQ.base (B := w.heap.size + 3) (by (repeat (first | with_reducible exact O3.out | with_reducible refine OwQ.far ?_ (by first | (simp; done) | omega | (simp; omega)) _ | with_reducible refine OwQ.allc ?_ _ | with_reducible refine OwQ.drew ?_ | with_reducible refine OwQ.drewN ?_ _))) (by omega)), by (repeat (first | with_reducible exact Below.refl _ _ | with_reducible assumption | with_reducible refine Below.setCell ?_ (by first | (simp; done) | omega | (simp; omega)) _ | with_reducible refine Below.alloc ?_ (by first | (simp; done) | omega | (simp; omega)) _ | with_reducible refine below_drewN ?_ _ | with_reducible refine Below.drew ?_))⟩
      · go_wp2_with fail
        refine (hxt.out _ (by refine RG.rd (B0 := w.heap.size) (B1 := w.heap.size + 3) ?_; (repeat (first | with_reducible exact O2.out | with_reducible refine RG.setc ?_ (by first | (simp; done) | omega | (simp; omega)) (by first | (simp; done) | omega | (simp; omega)) _ | with_reducible refine RG.allc ?_ _ | with_reducible refine RG.drew ?_ | with_reducible refine RG.drewN ?_ _)))).mono ?_
        rintro e w3 ⟨rfl, hb⟩
        replace O1 := hide ((show RG w.heap.size (w.heap.size + 3) _ A1 l1 by (repeat (first | with_reducible exact O1.out | with_reducible refine RG.setc ?_ (by first | (simp; done) | omega | (simp; omega)) (by first | (simp; done) | omega | (simp; omega)) _ | with_reducible refine RG.allc ?_ _ | with_reducible refine RG.drew ?_ | with_reducible refine RG.drewN ?_ _))).kept hb)
        replace O2 := hide ((show RG w.heap.size (w.heap.size + 3) _ A2 l2 by (repeat (first | with_reducible exact O2.out | with_reducible refine RG.setc ?_ (by first | (simp; done) | omega | (simp; omega)) (by first | (simp; done) | omega | (simp; omega)) _ | with_reducible refine RG.allc ?_ _ | with_reducible refine RG.drew ?_ | with_reducible refine RG.drewN ?_ _))).kept hb)
        have hB3 : Below w.heap.size w w3 := Below.trans (by (repeat (first | with_reducible exact Below.refl _ _ | with_reducible assumption | with_reducible refine Below.setCell ?_ (by first | (simp; done) | omega | (simp; omega)) _ | with_reducible refine Below.alloc ?_ (by first | (simp; done) | omega | (simp; omega)) _ | with_reducible refine below_drewN ?_ _ | with_reducible refine Below.drew ?_))) (hb.mono (by first | omega | (simp; done) | (simp; omega)))
        obtain ⟨kc3, kf3⟩ := bcell hb
        have hz3 := hb.size
        (try simp at hz3)
        have n3_0 : w.heap.size < w3.heap.size := by omega
        have n3_1 : w.heap.size + 1 < w3.heap.size := by omega
        have n3_2 : w.heap.size + 2 < w3.heap.size := by omega
        have m3_0 : w3.cell? ⟨w.heap.size, 0, none⟩ = some (.slice A1 l1.length c1) := (kc3 _ _ (by first | assumption | (simp; done) | omega | (simp; omega))).trans (by first | assumption | (simp [go_sem]; done))
        have v3_0 : w3.frozen? ⟨w.heap.size, 0, none⟩ = false := (kf3 _ _ (by first | assumption | (simp; done) | omega | (simp; omega))).trans (by first | assumption | (simp [go_sem]; done))
        have m3_1 : w3.cell? ⟨w.heap.size, 1, none⟩ = some (.bool s1) := (kc3 _ _ (by first | assumption | (simp; done) | omega | (simp; omega))).trans (by first | assumption | (simp [go_sem]; done))
        have v3_1 : w3.frozen? ⟨w.heap.size, 1, none⟩ = false := (kf3 _ _ (by first | assumption | (simp; done) | omega | (simp; omega))).trans (by first | assumption | (simp [go_sem]; done))
        have m3_2 : w3.cell? ⟨w.heap.size + 1, 0, none⟩ = some (.slice A2 l2.length c2) := (kc3 _ _ (by first | assumption | (simp; done) | omega | (simp; omega))).trans (by first | assumption | (simp [go_sem]; done))
        have v3_2 : w3.frozen? ⟨w.heap.size + 1, 0, none⟩ = false := (kf3 _ _ (by first | assumption | (simp; done) | omega | (simp; omega))).trans (by first | assumption | (simp [go_sem]; done))
        have m3_3 : w3.cell? ⟨w.heap.size + 1, 1, none⟩ = some (.bool s2) := (kc3 _ _ (by first | assumption | (simp; done) | omega | (simp; omega))).trans (by first | assumption | (simp [go_sem]; done))
        have v3_3 : w3.frozen? ⟨w.heap.size + 1, 1, none⟩ = false := (kf3 _ _ (by first | assumption | (simp; done) | omega | (simp; omega))).trans (by first | assumption | (simp [go_sem]; done))
        have m3_4 : w3.cell? ⟨w.heap.size + 2, 0, none⟩ = some (.slice none 0 0) := (kc3 _ _ (by first | assumption | (simp; done) | omega | (simp; omega))).trans (by first | assumption | (simp [go_sem]; done))
        have v3_4 : w3.frozen? ⟨w.heap.size + 2, 0, none⟩ = false := (kf3 _ _ (by first | assumption | (simp; done) | omega | (simp; omega))).trans (by first | assumption | (simp [go_sem]; done))
        have m3_5 : w3.cell? ⟨w.heap.size + 2, 1, none⟩ = some (.bool false) := (kc3 _ _ (by first | assumption | (simp; done) | omega | (simp; omega))).trans (by first | assumption | (simp [go_sem]; done))
        have v3_5 : w3.frozen? ⟨w.heap.size + 2, 1, none⟩ = false := (kf3 _ _ (by first | assumption | (simp; done) | omega | (simp; omega))).trans (by first | assumption | (simp [go_sem]; done))
        clear kc3 kf3
        clear hb
        go_wp2_with fail
        refine region_anyT (S := fun wS => Below w3.heap.size w3 wS) (n := 10) (by kernel_rfl) (Below.refl _ _).drew (fun hS inv => ?_)
        refine anyT_take (i := 0) (oi := _) (v := Value.pointer (some ⟨w.heap.size, 0, none⟩)) rfl (by kernel_rfl) (by kernel_rfl) (by kernel_rfl) (by decide) (by decide) (by kernel_rfl) (by kernel_rfl) inv (fun _ _ _ h => h) (Or.inl ⟨by kernel_rfl, ?_⟩) hS (fun inv => ?_)
        · intro wz hSw
          first | kernel_rfl | go_simp
        (try simp only [Act.put, List.getElem_toArray, List.getElem_cons_zero, List.getElem_cons_succ, List.setIfInBounds_toArray, List.set_cons_zero, List.set_cons_succ])
        refine anyT_take (i := 1) (oi := _) (v := Value.slice A1 l1.length c1) rfl (by kernel_rfl) (by kernel_rfl) (by kernel_rfl) (by decide) (by decide) (by kernel_rfl) (by kernel_rfl) inv (fun _ _ _ h => h) (Or.inl ⟨by kernel_rfl, ?_⟩) hS (fun inv => ?_)
        · intro wz hSw
          have hk0 := (hSw : Below _ _ _).cell (p := ⟨w.heap.size, 0, none⟩) (by first | assumption | (simp; done) | omega | (simp; omega)); go_simp
        (try simp only [Act.put, List.getElem_toArray, List.getElem_cons_zero, List.getElem_cons_succ, List.setIfInBounds_toArray, List.set_cons_zero, List.set_cons_succ])
        refine anyT_take (i := 3) (oi := _) (v := Value.pointer (some ⟨w.heap.size + 1, 0, none⟩)) rfl (by kernel_rfl) (by kernel_rfl) (by kernel_rfl) (by decide) (by decide) (by kernel_rfl) (by kernel_rfl) inv (fun _ _ _ h => h) (Or.inl ⟨by kernel_rfl, ?_⟩) hS (fun inv => ?_)
        · intro wz hSw
          first | kernel_rfl | go_simp
        (try simp only [Act.put, List.getElem_toArray, List.getElem_cons_zero, List.getElem_cons_succ, List.setIfInBounds_toArray, List.set_cons_zero, List.set_cons_succ])
        refine anyT_take (i := 4) (oi := _) (v := Value.slice A2 l2.length c2) rfl (by kernel_rfl) (by kernel_rfl) (by kernel_rfl) (by decide) (by decide) (by kernel_rfl) (by kernel_rfl) inv (fun _ _ _ h => h) (Or.inl ⟨by kernel_rfl, ?_⟩) hS (fun inv => ?_)
        · intro wz hSw
          have hk0 := (hSw : Below _ _ _).cell (p := ⟨w.heap.size + 1, 0, none⟩) (by first | assumption | (simp; done) | omega | (simp; omega)); go_simp
        (try simp only [Act.put, List.getElem_toArray, List.getElem_cons_zero, List.getElem_cons_succ, List.setIfInBounds_toArray, List.set_cons_zero, List.set_cons_succ])
        refine anyT_take (i := 7) (oi := _) (v := Value.pointer (some ⟨w.heap.size, 1, none⟩)) rfl (by kernel_rfl) (by kernel_rfl) (by kernel_rfl) (by decide) (by decide) (by kernel_rfl) (by kernel_rfl) inv (fun _ _ _ h => h) (Or.inl ⟨by kernel_rfl, ?_⟩) hS (fun inv => ?_)
        · intro wz hSw
          first | kernel_rfl | go_simp
        (try simp only [Act.put, List.getElem_toArray, List.getElem_cons_zero, List.getElem_cons_succ, List.setIfInBounds_toArray, List.set_cons_zero, List.set_cons_succ])
        refine anyT_take (i := 8) (oi := _) (v := Value.bool s1) rfl (by kernel_rfl) (by kernel_rfl) (by kernel_rfl) (by decide) (by decide) (by kernel_rfl) (by kernel_rfl) inv (fun _ _ _ h => h) (Or.inl ⟨by kernel_rfl, ?_⟩) hS (fun inv => ?_)
        · intro wz hSw
          have hk0 := (hSw : Below _ _ _).cell (p := ⟨w.heap.size, 1, none⟩) (by first | assumption | (simp; done) | omega | (simp; omega)); go_simp
        (try simp only [Act.put, List.getElem_toArray, List.getElem_cons_zero, List.getElem_cons_succ, List.setIfInBounds_toArray, List.set_cons_zero, List.set_cons_succ])
        refine anyT_ready (rs := [2]) (by kernel_rfl) (by simp) ?_
        refine ReadyT.head (o := _) rfl (by decide) (by kernel_rfl) inv (fun K hK => ?_) ReadyT.nil
        go_simp
        refine (number_q A1 l1 c1 _ (by omega) (by refine RG.rd (B0 := w.heap.size) (B1 := w.heap.size + 3) ?_; (repeat (first | with_reducible exact O1.out | with_reducible refine RG.setc ?_ (by first | (simp; done) | omega | (simp; omega)) (by first | (simp; done) | omega | (simp; omega)) _ | with_reducible refine RG.allc ?_ _ | with_reducible refine RG.drew ?_ | with_reducible refine RG.drewN ?_ _)))).mono ?_
        rintro e w4 ⟨lm, Am, cm, Em, rfl, Cm, Om, hb⟩
        go_wp2_with fail
        refine hK.out _ _ ?_ (fun hS inv => ?_)
        · exact (hS : Below w3.heap.size w3 _).trans (hb.mono (Below.size hS))
        clear hK K
        (try simp only [Act.put, List.getElem_toArray, List.getElem_cons_zero, List.getElem_cons_succ, List.setIfInBounds_toArray, List.set_cons_zero, List.set_cons_succ])
        replace O1 := hide ((show RG w.heap.size (w.heap.size + 3) _ A1 l1 by (repeat (first | with_reducible exact O1.out | with_reducible refine RG.setc ?_ (by first | (simp; done) | omega | (simp; omega)) (by first | (simp; done) | omega | (simp; omega)) _ | with_reducible refine RG.allc ?_ _ | with_reducible refine RG.drew ?_ | with_reducible refine RG.drewN ?_ _))).kept hb)
        replace O2 := hide ((show RG w.heap.size (w.heap.size + 3) _ A2 l2 by (repeat (first | with_reducible exact O2.out | with_reducible refine RG.setc ?_ (by first | (simp; done) | omega | (simp; omega)) (by first | (simp; done) | omega | (simp; omega)) _ | with_reducible refine RG.allc ?_ _ | with_reducible refine RG.drew ?_ | with_reducible refine RG.drewN ?_ _))).kept hb)
        replace Om := hide Om.out.rd
        have hB4 : Below w.heap.size w w4 := Below.trans (by (repeat (first | with_reducible exact Below.refl _ _ | with_reducible assumption | with_reducible refine Below.setCell ?_ (by first | (simp; done) | omega | (simp; omega)) _ | with_reducible refine Below.alloc ?_ (by first | (simp; done) | omega | (simp; omega)) _ | with_reducible refine below_drewN ?_ _ | with_reducible refine Below.drew ?_))) (hb.mono (by first | omega | (simp; done) | (simp; omega)))
        obtain ⟨kc4, kf4⟩ := bcell hb
        have hz4 := hb.size
        (try simp at hz4)
        have n4_0 : w.heap.size < w4.heap.size := by omega
        have n4_1 : w.heap.size + 1 < w4.heap.size := by omega
        have n4_2 : w.heap.size + 2 < w4.heap.size := by omega
        have m4_0 : w4.cell? ⟨w.heap.size, 0, none⟩ = some (.slice A1 l1.length c1) := (kc4 _ _ (by first | assumption | (simp; done) | omega | (simp; omega))).trans (by first | assumption | (simp [go_sem]; done))
        have v4_0 : w4.frozen? ⟨w.heap.size, 0, none⟩ = false := (kf4 _ _ (by first | assumption | (simp; done) | omega | (simp; omega))).trans (by first | assumption | (simp [go_sem]; done))
        have m4_1 : w4.cell? ⟨w.heap.size, 1, none⟩ = some (.bool s1) := (kc4 _ _ (by first | assumption | (simp; done) | omega | (simp; omega))).trans (by first | assumption | (simp [go_sem]; done))
        have v4_1 : w4.frozen? ⟨w.heap.size, 1, none⟩ = false := (kf4 _ _ (by first | assumption | (simp; done) | omega | (simp; omega))).trans (by first | assumption | (simp [go_sem]; done))
        have m4_2 : w4.cell? ⟨w.heap.size + 1, 0, none⟩ = some (.slice A2 l2.length c2) := (kc4 _ _ (by first | assumption | (simp; done) | omega | (simp; omega))).trans (by first | assumption | (simp [go_sem]; done))
        have v4_2 : w4.frozen? ⟨w.heap.size + 1, 0, none⟩ = false := (kf4 _ _ (by first | assumption | (simp; done) | omega | (simp; omega))).trans (by first | assumption | (simp [go_sem]; done))
        have m4_3 : w4.cell? ⟨w.heap.size + 1, 1, none⟩ = some (.bool s2) := (kc4 _ _ (by first | assumption | (simp; done) | omega | (simp; omega))).trans (by first | assumption | (simp [go_sem]; done))
        have v4_3 : w4.frozen? ⟨w.heap.size + 1, 1, none⟩ = false := (kf4 _ _ (by first | assumption | (simp; done) | omega | (simp; omega))).trans (by first | assumption | (simp [go_sem]; done))
        have m4_4 : w4.cell? ⟨w.heap.size + 2, 0, none⟩ = some (.slice none 0 0) := (kc4 _ _ (by first | assumption | (simp; done) | omega | (simp; omega))).trans (by first | assumption | (simp [go_sem]; done))
        have v4_4 : w4.frozen? ⟨w.heap.size + 2, 0, none⟩ = false := (kf4 _ _ (by first | assumption | (simp; done) | omega | (simp; omega))).trans (by first | assumption | (simp [go_sem]; done))
        have m4_5 : w4.cell? ⟨w.heap.size + 2, 1, none⟩ = some (.bool false) := (kc4 _ _ (by first | assumption | (simp; done) | omega | (simp; omega))).trans (by first | assumption | (simp [go_sem]; done))
        have v4_5 : w4.frozen? ⟨w.heap.size + 2, 1, none⟩ = false := (kf4 _ _ (by first | assumption | (simp; done) | omega | (simp; omega))).trans (by first | assumption | (simp [go_sem]; done))
        clear kc4 kf4
        clear hb
        have em : lm.length ≤ 4096 := by rw [Em.out, nb_length]; omega
        have em2 := hide (show lm.length = l1.length by rw [Em.out, nb_length])
        refine anyT_ready (rs := [5]) (by kernel_rfl) (by simp) ?_
        refine ReadyT.head (o := _) rfl (by decide) (by kernel_rfl) inv (fun K hK => ?_) ReadyT.nil
        go_simp
        refine (number_q A2 l2 c2 _ (by omega) (by refine RG.rd (B0 := w.heap.size) (B1 := w.heap.size + 3) ?_; (repeat (first | with_reducible exact O2.out | with_reducible refine RG.setc ?_ (by first | (simp; done) | omega | (simp; omega)) (by first | (simp; done) | omega | (simp; omega)) _ | with_reducible refine RG.allc ?_ _ | with_reducible refine RG.drew ?_ | with_reducible refine RG.drewN ?_ _)))).mono ?_
        rintro e w5 ⟨lk, Ak, ck, Ek, rfl, Ck, Ok, hb⟩
        go_wp2_with fail
        refine hK.out _ _ ?_ (fun hS inv => ?_)
        · exact (hS : Below w3.heap.size w3 _).trans (hb.mono (Below.size hS))
        clear hK K
        (try simp only [Act.put, List.getElem_toArray, List.getElem_cons_zero, List.getElem_cons_succ, List.setIfInBounds_toArray, List.set_cons_zero, List.set_cons_succ])
        replace Om := hide (Rd.below (by exact Om.out) hb)
        replace O1 := hide ((show RG w.heap.size (w.heap.size + 3) _ A1 l1 by (repeat (first | with_reducible exact O1.out | with_reducible refine RG.setc ?_ (by first | (simp; done) | omega | (simp; omega)) (by first | (simp; done) | omega | (simp; omega)) _ | with_reducible refine RG.allc ?_ _ | with_reducible refine RG.drew ?_ | with_reducible refine RG.drewN ?_ _))).kept hb)
        replace O2 := hide ((show RG w.heap.size (w.heap.size + 3) _ A2 l2 by (repeat (first | with_reducible exact O2.out | with_reducible refine RG.setc ?_ (by first | (simp; done) | omega | (simp; omega)) (by first | (simp; done) | omega | (simp; omega)) _ | with_reducible refine RG.allc ?_ _ | with_reducible refine RG.drew ?_ | with_reducible refine RG.drewN ?_ _))).kept hb)
        replace Ok := hide Ok.out.rd
        have hB5 : Below w.heap.size w w5 := Below.trans (by (repeat (first | with_reducible exact Below.refl _ _ | with_reducible assumption | with_reducible refine Below.setCell ?_ (by first | (simp; done) | omega | (simp; omega)) _ | with_reducible refine Below.alloc ?_ (by first | (simp; done) | omega | (simp; omega)) _ | with_reducible refine below_drewN ?_ _ | with_reducible refine Below.drew ?_))) (hb.mono (by first | omega | (simp; done) | (simp; omega)))
        obtain ⟨kc5, kf5⟩ := bcell hb
        have hz5 := hb.size
        (try simp at hz5)
        have n5_0 : w.heap.size < w5.heap.size := by omega
        have n5_1 : w.heap.size + 1 < w5.heap.size := by omega
        have n5_2 : w.heap.size + 2 < w5.heap.size := by omega
        have m5_0 : w5.cell? ⟨w.heap.size, 0, none⟩ = some (.slice A1 l1.length c1) := (kc5 _ _ (by first | assumption | (simp; done) | omega | (simp; omega))).trans (by first | assumption | (simp [go_sem]; done))
        have v5_0 : w5.frozen? ⟨w.heap.size, 0, none⟩ = false := (kf5 _ _ (by first | assumption | (simp; done) | omega | (simp; omega))).trans (by first | assumption | (simp [go_sem]; done))
        have m5_1 : w5.cell? ⟨w.heap.size, 1, none⟩ = some (.bool s1) := (kc5 _ _ (by first | assumption | (simp; done) | omega | (simp; omega))).trans (by first | assumption | (simp [go_sem]; done))
        have v5_1 : w5.frozen? ⟨w.heap.size, 1, none⟩ = false := (kf5 _ _ (by first | assumption | (simp; done) | omega | (simp; omega))).trans (by first | assumption | (simp [go_sem]; done))
        have m5_2 : w5.cell? ⟨w.heap.size + 1, 0, none⟩ = some (.slice A2 l2.length c2) := (kc5 _ _ (by first | assumption | (simp; done) | omega | (simp; omega))).trans (by first | assumption | (simp [go_sem]; done))
        have v5_2 : w5.frozen? ⟨w.heap.size + 1, 0, none⟩ = false := (kf5 _ _ (by first | assumption | (simp; done) | omega | (simp; omega))).trans (by first | assumption | (simp [go_sem]; done))
        have m5_3 : w5.cell? ⟨w.heap.size + 1, 1, none⟩ = some (.bool s2) := (kc5 _ _ (by first | assumption | (simp; done) | omega | (simp; omega))).trans (by first | assumption | (simp [go_sem]; done))
        have v5_3 : w5.frozen? ⟨w.heap.size + 1, 1, none⟩ = false := (kf5 _ _ (by first | assumption | (simp; done) | omega | (simp; omega))).trans (by first | assumption | (simp [go_sem]; done))
        have m5_4 : w5.cell? ⟨w.heap.size + 2, 0, none⟩ = some (.slice none 0 0) := (kc5 _ _ (by first | assumption | (simp; done) | omega | (simp; omega))).trans (by first | assumption | (simp [go_sem]; done))
        have v5_4 : w5.frozen? ⟨w.heap.size + 2, 0, none⟩ = false := (kf5 _ _ (by first | assumption | (simp; done) | omega | (simp; omega))).trans (by first | assumption | (simp [go_sem]; done))
        have m5_5 : w5.cell? ⟨w.heap.size + 2, 1, none⟩ = some (.bool false) := (kc5 _ _ (by first | assumption | (simp; done) | omega | (simp; omega))).trans (by first | assumption | (simp [go_sem]; done))
        have v5_5 : w5.frozen? ⟨w.heap.size + 2, 1, none⟩ = false := (kf5 _ _ (by first | assumption | (simp; done) | omega | (simp; omega))).trans (by first | assumption | (simp [go_sem]; done))
        clear kc5 kf5
        clear hb
        have ek : lk.length ≤ 4096 := by rw [Ek.out, nb_length]; omega
        refine anyT_ready (rs := [6]) (by kernel_rfl) (by simp) ?_
        refine ReadyT.head (o := _) rfl (by decide) (by kernel_rfl) inv (fun K hK => ?_) ReadyT.nil
        go_simp
        refine (pow_q Am Ak lm lk cm ck _ em ek Om.out Ok.out).mono ?_
        rintro e w6 ⟨lp, Ap, cp, Ep, rfl, Cp, Op, hb⟩
        go_wp2_with fail
        refine hK.out _ _ ?_ (fun hS inv => ?_)
        · exact (hS : Below w3.heap.size w3 _).trans (hb.mono (Below.size hS))
        clear hK K
        (try simp only [Act.put, List.getElem_toArray, List.getElem_cons_zero, List.getElem_cons_succ, List.setIfInBounds_toArray, List.set_cons_zero, List.set_cons_succ])
        replace Om := hide (Rd.below (by exact Om.out) hb)
        replace Ok := hide (Rd.below (by exact Ok.out) hb)
        replace O1 := hide ((show RG w.heap.size (w.heap.size + 3) _ A1 l1 by (repeat (first | with_reducible exact O1.out | with_reducible refine RG.setc ?_ (by first | (simp; done) | omega | (simp; omega)) (by first | (simp; done) | omega | (simp; omega)) _ | with_reducible refine RG.allc ?_ _ | with_reducible refine RG.drew ?_ | with_reducible refine RG.drewN ?_ _))).kept hb)
        replace O2 := hide ((show RG w.heap.size (w.heap.size + 3) _ A2 l2 by (repeat (first | with_reducible exact O2.out | with_reducible refine RG.setc ?_ (by first | (simp; done) | omega | (simp; omega)) (by first | (simp; done) | omega | (simp; omega)) _ | with_reducible refine RG.allc ?_ _ | with_reducible refine RG.drew ?_ | with_reducible refine RG.drewN ?_ _))).kept hb)
        replace Op := hide Op.out.rd
        have hB6 : Below w.heap.size w w6 := Below.trans (by (repeat (first | with_reducible exact Below.refl _ _ | with_reducible assumption | with_reducible refine Below.setCell ?_ (by first | (simp; done) | omega | (simp; omega)) _ | with_reducible refine Below.alloc ?_ (by first | (simp; done) | omega | (simp; omega)) _ | with_reducible refine below_drewN ?_ _ | with_reducible refine Below.drew ?_))) (hb.mono (by first | omega | (simp; done) | (simp; omega)))
        obtain ⟨kc6, kf6⟩ := bcell hb
        have hz6 := hb.size
        (try simp at hz6)
        have n6_0 : w.heap.size < w6.heap.size := by omega
        have n6_1 : w.heap.size + 1 < w6.heap.size := by omega
        have n6_2 : w.heap.size + 2 < w6.heap.size := by omega
        have m6_0 : w6.cell? ⟨w.heap.size, 0, none⟩ = some (.slice A1 l1.length c1) := (kc6 _ _ (by first | assumption | (simp; done) | omega | (simp; omega))).trans (by first | assumption | (simp [go_sem]; done))
        have v6_0 : w6.frozen? ⟨w.heap.size, 0, none⟩ = false := (kf6 _ _ (by first | assumption | (simp; done) | omega | (simp; omega))).trans (by first | assumption | (simp [go_sem]; done))
        have m6_1 : w6.cell? ⟨w.heap.size, 1, none⟩ = some (.bool s1) := (kc6 _ _ (by first | assumption | (simp; done) | omega | (simp; omega))).trans (by first | assumption | (simp [go_sem]; done))
        have v6_1 : w6.frozen? ⟨w.heap.size, 1, none⟩ = false := (kf6 _ _ (by first | assumption | (simp; done) | omega | (simp; omega))).trans (by first | assumption | (simp [go_sem]; done))
        have m6_2 : w6.cell? ⟨w.heap.size + 1, 0, none⟩ = some (.slice A2 l2.length c2) := (kc6 _ _ (by first | assumption | (simp; done) | omega | (simp; omega))).trans (by first | assumption | (simp [go_sem]; done))
        have v6_2 : w6.frozen? ⟨w.heap.size + 1, 0, none⟩ = false := (kf6 _ _ (by first | assumption | (simp; done) | omega | (simp; omega))).trans (by first | assumption | (simp [go_sem]; done))
        have m6_3 : w6.cell? ⟨w.heap.size + 1, 1, none⟩ = some (.bool s2) := (kc6 _ _ (by first | assumption | (simp; done) | omega | (simp; omega))).trans (by first | assumption | (simp [go_sem]; done))
        have v6_3 : w6.frozen? ⟨w.heap.size + 1, 1, none⟩ = false := (kf6 _ _ (by first | assumption | (simp; done) | omega | (simp; omega))).trans (by first | assumption | (simp [go_sem]; done))
        have m6_4 : w6.cell? ⟨w.heap.size + 2, 0, none⟩ = some (.slice none 0 0) := (kc6 _ _ (by first | assumption | (simp; done) | omega | (simp; omega))).trans (by first | assumption | (simp [go_sem]; done))
        have v6_4 : w6.frozen? ⟨w.heap.size + 2, 0, none⟩ = false := (kf6 _ _ (by first | assumption | (simp; done) | omega | (simp; omega))).trans (by first | assumption | (simp [go_sem]; done))
        have m6_5 : w6.cell? ⟨w.heap.size + 2, 1, none⟩ = some (.bool false) := (kc6 _ _ (by first | assumption | (simp; done) | omega | (simp; omega))).trans (by first | assumption | (simp [go_sem]; done))
        have v6_5 : w6.frozen? ⟨w.heap.size + 2, 1, none⟩ = false := (kf6 _ _ (by first | assumption | (simp; done) | omega | (simp; omega))).trans (by first | assumption | (simp [go_sem]; done))
        clear kc6 kf6
        clear hb
        have ep : lp.length ≤ 4096 := by rw [Ep.out, vz_length]; omega
        refine anyT_ready (rs := [9]) (by kernel_rfl) (by simp) ?_
        refine ReadyT.head (o := _) rfl (by decide) (by kernel_rfl) inv (fun K hK => ?_) ReadyT.nil
        go_simp
        refine (vector_any Ap lp cp s1 _ ep Op.out).mono ?_
        rintro e w7 ⟨l3, s3, A3, c3, E3, rfl, C3, O3, hb⟩
        go_wp2_with fail
        refine hK.out _ _ ?_ (fun hS inv => ?_)
        · exact (hS : Below w3.heap.size w3 _).trans (hb.mono (Below.size hS))
        clear hK K
        (try simp only [Act.put, List.getElem_toArray, List.getElem_cons_zero, List.getElem_cons_succ, List.setIfInBounds_toArray, List.set_cons_zero, List.set_cons_succ])
        replace Om := hide (Rd.below (by exact Om.out) hb)
        replace Ok := hide (Rd.below (by exact Ok.out) hb)
        replace Op := hide (Rd.below (by exact Op.out) hb)
        replace O1 := hide ((show RG w.heap.size (w.heap.size + 3) _ A1 l1 by (repeat (first | with_reducible exact O1.out | with_reducible refine RG.setc ?_ (by first | (simp; done) | omega | (simp; omega)) (by first | (simp; done) | omega | (simp; omega)) _ | with_reducible refine RG.allc ?_ _ | with_reducible refine RG.drew ?_ | with_reducible refine RG.drewN ?_ _))).kept hb)
        replace O2 := hide ((show RG w.heap.size (w.heap.size + 3) _ A2 l2 by (repeat (first | with_reducible exact O2.out | with_reducible refine RG.setc ?_ (by first | (simp; done) | omega | (simp; omega)) (by first | (simp; done) | omega | (simp; omega)) _ | with_reducible refine RG.allc ?_ _ | with_reducible refine RG.drew ?_ | with_reducible refine RG.drewN ?_ _))).kept hb)
        replace O3 := hide (O3.out.base (show w.heap.size + 3 ≤ _ by first | omega | (simp; omega) | (simp; done)))
        have hB7 : Below w.heap.size w w7 := Below.trans (by (repeat (first | with_reducible exact Below.refl _ _ | with_reducible assumption | with_reducible refine Below.setCell ?_ (by first | (simp; done) | omega | (simp; omega)) _ | with_reducible refine Below.alloc ?_ (by first | (simp; done) | omega | (simp; omega)) _ | with_reducible refine below_drewN ?_ _ | with_reducible refine Below.drew ?_))) (hb.mono (by first | omega | (simp; done) | (simp; omega)))
        obtain ⟨kc7, kf7⟩ := bcell hb
        have hz7 := hb.size
        (try simp at hz7)
        have n7_0 : w.heap.size < w7.heap.size := by omega
        have n7_1 : w.heap.size + 1 < w7.heap.size := by omega
        have n7_2 : w.heap.size + 2 < w7.heap.size := by omega
        have m7_0 : w7.cell? ⟨w.heap.size, 0, none⟩ = some (.slice A1 l1.length c1) := (kc7 _ _ (by first | assumption | (simp; done) | omega | (simp; omega))).trans (by first | assumption | (simp [go_sem]; done))
        have v7_0 : w7.frozen? ⟨w.heap.size, 0, none⟩ = false := (kf7 _ _ (by first | assumption | (simp; done) | omega | (simp; omega))).trans (by first | assumption | (simp [go_sem]; done))
        have m7_1 : w7.cell? ⟨w.heap.size, 1, none⟩ = some (.bool s1) := (kc7 _ _ (by first | assumption | (simp; done) | omega | (simp; omega))).trans (by first | assumption | (simp [go_sem]; done))
        have v7_1 : w7.frozen? ⟨w.heap.size, 1, none⟩ = false := (kf7 _ _ (by first | assumption | (simp; done) | omega | (simp; omega))).trans (by first | assumption | (simp [go_sem]; done))
        have m7_2 : w7.cell? ⟨w.heap.size + 1, 0, none⟩ = some (.slice A2 l2.length c2) := (kc7 _ _ (by first | assumption | (simp; done) | omega | (simp; omega))).trans (by first | assumption | (simp [go_sem]; done))
        have v7_2 : w7.frozen? ⟨w.heap.size + 1, 0, none⟩ = false := (kf7 _ _ (by first | assumption | (simp; done) | omega | (simp; omega))).trans (by first | assumption | (simp [go_sem]; done))
        have m7_3 : w7.cell? ⟨w.heap.size + 1, 1, none⟩ = some (.bool s2) := (kc7 _ _ (by first | assumption | (simp; done) | omega | (simp; omega))).trans (by first | assumption | (simp [go_sem]; done))
        have v7_3 : w7.frozen? ⟨w.heap.size + 1, 1, none⟩ = false := (kf7 _ _ (by first | assumption | (simp; done) | omega | (simp; omega))).trans (by first | assumption | (simp [go_sem]; done))
        have m7_4 : w7.cell? ⟨w.heap.size + 2, 0, none⟩ = some (.slice none 0 0) := (kc7 _ _ (by first | assumption | (simp; done) | omega | (simp; omega))).trans (by first | assumption | (simp [go_sem]; done))
        have v7_4 : w7.frozen? ⟨w.heap.size + 2, 0, none⟩ = false := (kf7 _ _ (by first | assumption | (simp; done) | omega | (simp; omega))).trans (by first | assumption | (simp [go_sem]; done))
        have m7_5 : w7.cell? ⟨w.heap.size + 2, 1, none⟩ = some (.bool false) := (kc7 _ _ (by first | assumption | (simp; done) | omega | (simp; omega))).trans (by first | assumption | (simp [go_sem]; done))
        have v7_5 : w7.frozen? ⟨w.heap.size + 2, 1, none⟩ = false := (kf7 _ _ (by first | assumption | (simp; done) | omega | (simp; omega))).trans (by first | assumption | (simp [go_sem]; done))
        clear kc7 kf7
        clear hb
        refine anyT_ready (rs := [10]) (by kernel_rfl) (by simp) ?_
        refine ReadyT.tail (o := _) rfl (by decide) (fun K hK => ?_)
        go_simp
        refine hK.out _ _ ?_
        clear hK K
        (try simp only [Act.put, List.getElem_toArray, List.getElem_cons_zero, List.getElem_cons_succ, List.setIfInBounds_toArray, List.set_cons_zero, List.set_cons_succ])
        refine anyT_done (by kernel_rfl) ?_ _
        go_wp2
        refine bodyPost_ret (v := .agg #[.slice A3 l3.length c3, .bool s3]) (by simp [results, Tryz.results61, go_sem, *]) rfl ?_
        exact ⟨l3, s3, A3, c3, hide (E3.out.trans (by rw [HR.out, Ep.out, em2.out, Em.out, Ek.out]; simp [hx])), rfl, C3, hide (OwQ.base (B := w.heap.size + 3) (by (repeat (first | with_reducible exact O3.out | with_reducible refine OwQ.far ?_ (by first | (simp; done) | omega | (simp; omega)) _ | with_reducible refine OwQ.allc ?_ _ | with_reducible refine OwQ.drew ?_ | with_reducible refine OwQ.drewN ?_ _))) (by omega)), by (repeat (first | with_reducible exact Below.refl _ _ | with_reducible assumption | with_reducible refine Below.setCell ?_ (by first | (simp; done) | omega | (simp; omega)) _ | with_reducible refine Below.alloc ?_ (by first | (simp; done) | omega | (simp; omega)) _ | with_reducible refine below_drewN ?_ _ | with_reducible refine Below.drew ?_))⟩
end
section
open Go.RowKit
set_option maxRecDepth 100000
set_option linter.unusedSimpArgs false
set_option linter.unusedVariables false
theorem moves_ashr : Moves 159 mAShr := by
  refine ⟨Tryz.call159, fun A l c s k w G hk hA => ?_⟩
  have HA := hide hA
  have p1 := G.pos
  have u1 := G.le
  clear hA G
  go_enter Tryz.func159, Tryz.ntmps159
  go_wp2_with fail
  obtain ⟨W1, hW1⟩ : ∃ x, x = (w.alloc (Obj.cells #[Value.slice A l.length c, Value.bool s] 24)) := ⟨_, rfl⟩
  rw [← hW1]
  have hBW1 : Below w.heap.size w W1 := by rw [hW1]; exact belo
  have qW1_0 : W1.cell? ⟨w.heap.size, 0, none⟩ = some (Value.slice A l.length c) := by rw [hW1]; simp [go_sem]
  have fW1_0 : W1.frozen? ⟨w.heap.size, 0, none⟩ = false := by rw [hW1]; simp [go_sem]
  have qW1_1 : W1.cell? ⟨w.heap.size, 1, none⟩ = some (Value.bool s) := by rw [hW1]; simp [go_sem]
  have fW1_1 : W1.frozen? ⟨w.heap.size, 1, none⟩ = false := by rw [hW1]; simp [go_sem]
  have zW1_0 : w.heap.size < W1.heap.size := by rw [hW1]; first | (simp; done) | (simp; omega)
  clear hW1
  refine region_anyT (S := fun wS => Below W1.heap.size W1 wS) (n := 9) (by kernel_rfl) (Below.refl _ _).drew (fun hS inv => ?_)
  refine anyT_take (i := 0) (oi := _) (v := Value.pointer (some ⟨w.heap.size, 0, none⟩)) rfl (by kernel_rfl) (by kernel_rfl) (by kernel_rfl) (by decide) (by decide) (by kernel_rfl) (by kernel_rfl) inv (fun _ _ _ h => h) (Or.inl ⟨by kernel_rfl, ?_⟩) hS (fun inv => ?_)
  · intro wz hSw
    first | kernel_rfl | go_simp
  (try simp only [Act.put, List.getElem_toArray, List.getElem_cons_zero, List.getElem_cons_succ, List.setIfInBounds_toArray, List.set_cons_zero, List.set_cons_succ])
  refine anyT_take (i := 1) (oi := _) (v := Value.slice A l.length c) rfl (by kernel_rfl) (by kernel_rfl) (by kernel_rfl) (by decide) (by decide) (by kernel_rfl) (by kernel_rfl) inv (fun _ _ _ h => h) (Or.inl ⟨by kernel_rfl, ?_⟩) hS (fun inv => ?_)
  · intro wz hSw
    have hk0 := (hSw : Below _ _ _).cell (p := ⟨w.heap.size, 0, none⟩) (by first | assumption | (simp; done) | omega | (simp; omega)); go_simp
  (try simp only [Act.put, List.getElem_toArray, List.getElem_cons_zero, List.getElem_cons_succ, List.setIfInBounds_toArray, List.set_cons_zero, List.set_cons_succ])
  refine anyT_take (i := 2) (oi := _) (v := Value.int IntKind.i64 ↑k) rfl (by kernel_rfl) (by kernel_rfl) (by kernel_rfl) (by decide) (by decide) (by kernel_rfl) (by kernel_rfl) inv (fun _ _ _ h => h) (Or.inl ⟨by kernel_rfl, ?_⟩) hS (fun inv => ?_)
  · intro wz hSw
    first | kernel_rfl | go_simp
  (try simp only [Act.put, List.getElem_toArray, List.getElem_cons_zero, List.getElem_cons_succ, List.setIfInBounds_toArray, List.set_cons_zero, List.set_cons_succ])
  refine anyT_take (i := 3) (oi := _) (v := Value.pointer (some ⟨w.heap.size, 0, none⟩)) rfl (by kernel_rfl) (by kernel_rfl) (by kernel_rfl) (by decide) (by decide) (by kernel_rfl) (by kernel_rfl) inv (fun _ _ _ h => h) (Or.inl ⟨by kernel_rfl, ?_⟩) hS (fun inv => ?_)
  · intro wz hSw
    first | kernel_rfl | go_simp
  (try simp only [Act.put, List.getElem_toArray, List.getElem_cons_zero, List.getElem_cons_succ, List.setIfInBounds_toArray, List.set_cons_zero, List.set_cons_succ])
  refine anyT_take (i := 4) (oi := _) (v := Value.slice A l.length c) rfl (by kernel_rfl) (by kernel_rfl) (by kernel_rfl) (by decide) (by decide) (by kernel_rfl) (by kernel_rfl) inv (fun _ _ _ h => h) (Or.inl ⟨by kernel_rfl, ?_⟩) hS (fun inv => ?_)
  · intro wz hSw
    have hk0 := (hSw : Below _ _ _).cell (p := ⟨w.heap.size, 0, none⟩) (by first | assumption | (simp; done) | omega | (simp; omega)); go_simp
  (try simp only [Act.put, List.getElem_toArray, List.getElem_cons_zero, List.getElem_cons_succ, List.setIfInBounds_toArray, List.set_cons_zero, List.set_cons_succ])
  refine anyT_take (i := 5) (oi := _) (v := Value.int IntKind.i64 (l.length : Nat)) rfl (by kernel_rfl) (by kernel_rfl) (by kernel_rfl) (by decide) (by decide) (by kernel_rfl) (by kernel_rfl) inv (fun _ _ _ h => h) (Or.inl ⟨by kernel_rfl, ?_⟩) hS (fun inv => ?_)
  · intro wz hSw
    go_simp
  (try simp only [Act.put, List.getElem_toArray, List.getElem_cons_zero, List.getElem_cons_succ, List.setIfInBounds_toArray, List.set_cons_zero, List.set_cons_succ])
  refine anyT_take (i := 6) (oi := _) (v := Value.agg #[Value.slice A l.length c, Value.bool s]) rfl (by kernel_rfl) (by kernel_rfl) (by kernel_rfl) (by decide) (by decide) (by kernel_rfl) (by kernel_rfl) inv (fun _ _ _ h => h) (Or.inl ⟨by kernel_rfl, ?_⟩) hS (fun inv => ?_)
  · intro wz hSw
    have hk0 := (hSw : Below _ _ _).cell (p := ⟨w.heap.size, 0, none⟩) (by first | assumption | (simp; done) | omega | (simp; omega)); have hk1 := (hSw : Below _ _ _).cell (p := ⟨w.heap.size, 1, none⟩) (by first | assumption | (simp; done) | omega | (simp; omega)); go_simp
  (try simp only [Act.put, List.getElem_toArray, List.getElem_cons_zero, List.getElem_cons_succ, List.setIfInBounds_toArray, List.set_cons_zero, List.set_cons_succ])
  refine anyT_ready (rs := [7]) (by kernel_rfl) (by simp) ?_
  refine ReadyT.head (o := _) rfl (by decide) (by kernel_rfl) inv (fun K hK => ?_) ReadyT.nil
  go_simp
  refine (extension_any A l c s w _ p1 (by omega) (HA.out.below belo)).mono ?_
  rintro e w1 ⟨rfl, hb⟩
  go_wp2_with fail
  refine hK.out _ _ ?_ (fun hS inv => ?_)
  · exact (hS : Below W1.heap.size W1 _).trans (hb.mono (Below.size hS))
  clear hK K
  (try simp only [Act.put, List.getElem_toArray, List.getElem_cons_zero, List.getElem_cons_succ, List.setIfInBounds_toArray, List.set_cons_zero, List.set_cons_succ])
  have hB1 : Below w.heap.size w w1 := Below.trans belo (hb.mono (by first | omega | (simp; done) | (simp; omega)))
  obtain ⟨kc1, kf1⟩ := bcell hb
  have hz1 := hb.size
  (try simp at hz1)
  have n1_0 : w.heap.size < w1.heap.size := by omega
  clear hb
  refine anyT_ready (rs := [8]) (by kernel_rfl) (by simp) ?_
  refine ReadyT.head (o := _) rfl (by decide) (by kernel_rfl) inv (fun K hK => ?_) ReadyT.nil
  go_simp
  refine (window_q A l c l.length k (xt ⟨l, s⟩) _ (by omega) (by omega) (by omega) (by omega) (HA.out.below belo)).mono ?_
  rintro e w2 ⟨l1, A1, c1, E1, rfl, C1, O1, hb⟩
  go_wp2_with fail
  refine hK.out _ _ ?_ (fun hS inv => ?_)
  · exact (hS : Below W1.heap.size W1 _).trans (hb.mono (Below.size hS))
  clear hK K
  (try simp only [Act.put, List.getElem_toArray, List.getElem_cons_zero, List.getElem_cons_succ, List.setIfInBounds_toArray, List.set_cons_zero, List.set_cons_succ])
  replace O1 := hide (O1.out.base (show w.heap.size + 1 ≤ _ by first | omega | (simp; omega) | (simp; done)))
  have hB2 : Below w.heap.size w w2 := Below.trans belo (hb.mono (by first | omega | (simp; done) | (simp; omega)))
  obtain ⟨kc2, kf2⟩ := bcell hb
  have hz2 := hb.size
  (try simp at hz2)
  have n2_0 : w.heap.size < w2.heap.size := by omega
  clear hb
  refine anyT_ready (rs := [9]) (by kernel_rfl) (by simp) ?_
  refine ReadyT.tail (o := _) rfl (by decide) (fun K hK => ?_)
  go_simp
  refine hK.out _ _ ?_
  clear hK K
  (try simp only [Act.put, List.getElem_toArray, List.getElem_cons_zero, List.getElem_cons_succ, List.setIfInBounds_toArray, List.set_cons_zero, List.set_cons_succ])
  refine anyT_done (by kernel_rfl) ?_ _
  go_wp2
  go_ret
  exact ⟨l1, A1, c1, E1, rfl, C1, hide (OwQ.base (B := w.heap.size + 1) (by (repeat (first | with_reducible exact O1.out | with_reducible refine OwQ.far ?_ (by first | (simp; done) | omega | (simp; omega)) _ | with_reducible refine OwQ.allc ?_ _ | with_reducible refine OwQ.drew ?_ | with_reducible refine OwQ.drewN ?_ _))) (by omega)), by (repeat (first | with_reducible exact Below.refl _ _ | with_reducible assumption | with_reducible refine Below.setCell ?_ (by first | (simp; done) | omega | (simp; omega)) _ | with_reducible refine Below.alloc ?_ (by first | (simp; done) | omega | (simp; omega)) _ | with_reducible refine below_drewN ?_ _ | with_reducible refine Below.drew ?_))⟩
theorem vAShr_any (A B : Option Addr) (a b : List Int) (c d : Nat) (s t : Bool) (w : World) (ha : a.length ≤ 4096) (hb : b.length ≤ 4096) (hca : Hid (a.length ≤ c ∧ c ≤ maxLen)) (hcb : Hid (b.length ≤ d ∧ d ≤ maxLen)) (hA : RQ w A a) (hB : RQ w B b) (ya : By a) (yb : By b) :
    Calls Tryz.prog 64 #[.agg #[.slice A a.length c, .bool s], .agg #[.slice B b.length d, .bool t]] w (RetC (· = shf mAShr ⟨a, s⟩ ⟨b, t⟩) w) := by
  have HA := hide hA
  have HBB := hide hB
  have LA := hide ha
  have LB := hide hb
  have YA := hide ya
  have YB := hide yb
  clear hA hB ha hb ya yb
  go_enter Tryz.func64, Tryz.ntmps64
  go_wp2_with fail
  refine (shift_any _ _ moves_ashr A B a b c d s t _ LA.out LB.out hca hcb (HA.out.below belo) (HBB.out.below belo) YA.out YB.out).mono ?_
  rintro e w1 ⟨l1, s1, A1, c1, E1, rfl, C1, O1, hb⟩
  replace O1 := hide (O1.out.base (show w.heap.size + 3 ≤ _ by first | omega | (simp; omega) | (simp; done)))
  have hB1 : Below w.heap.size w w1 := Below.trans belo (hb.mono (by first | omega | (simp; done) | (simp; omega)))
  obtain ⟨kc1, kf1⟩ := bcell hb
  have hz1 := hb.size
  (try simp at hz1)
  have n1_0 : w.heap.size < w1.heap.size := by omega
  have n1_1 : w.heap.size + 1 < w1.heap.size := by omega
  have n1_2 : w.heap.size + 2 < w1.heap.size := by omega
  have r1_0 : w1.cell? ⟨w.heap.size + 2, 0, none⟩ = some (.slice none 0 0) := (kc1 _ _ (by first | assumption | (simp; done) | omega | (simp; omega))).trans (by first | assumption | (simp [go_sem]; done) | (simp; done))
  have g1_0 : w1.frozen? ⟨w.heap.size + 2, 0, none⟩ = false := (kf1 _ _ (by first | assumption | (simp; done) | omega | (simp; omega))).trans (by first | assumption | (simp [go_sem]; done) | (simp; done))
  have r1_1 : w1.cell? ⟨w.heap.size + 2, 1, none⟩ = some (.bool false) := (kc1 _ _ (by first | assumption | (simp; done) | omega | (simp; omega))).trans (by first | assumption | (simp [go_sem]; done) | (simp; done))
  have g1_1 : w1.frozen? ⟨w.heap.size + 2, 1, none⟩ = false := (kf1 _ _ (by first | assumption | (simp; done) | omega | (simp; omega))).trans (by first | assumption | (simp [go_sem]; done) | (simp; done))
  clear hb
  go_wp2
  refine bodyPost_ret (v := .agg #[.slice A1 l1.length c1, .bool s1]) (by simp [results, Tryz.results64, go_sem, *]) rfl ?_
  exact ⟨l1, s1, A1, c1, hide (E1.out), rfl, C1, hide (OwQ.base (B := w.heap.size + 3) (by (repeat (first | with_reducible exact O1.out | with_reducible refine OwQ.far ?_ (by first | (simp; done) | omega | (simp; omega)) _ | with_reducible refine OwQ.allc ?_ _ | with_reducible refine OwQ.drew ?_ | with_reducible refine OwQ.drewN ?_ _))) (by omega)), by (repeat (first | with_reducible exact Below.refl _ _ | with_reducible assumption | with_reducible refine Below.setCell ?_ (by first | (simp; done) | omega | (simp; omega)) _ | with_reducible refine Below.alloc ?_ (by first | (simp; done) | omega | (simp; omega)) _ | with_reducible refine below_drewN ?_ _ | with_reducible refine Below.drew ?_))⟩
end
end Go.Proofs.YtpiakebbndoecaaGreatDoor
