/-
  Texts of MC joined (Sx, Sy, VecC, VecC2, VecD, VecE, VecG, VecH, VecJ, VecK).
-/
import Derived.WalkKit
import Derived.Lib.Hide
import Derived.Handy
import Derived.Laws.CopyOwn
import Derived.Deep.RegionLaw
import Derived.Test.YtkfifkijcknikaaDoorMC1
set_option linter.unusedVariables false
set_option linter.unusedSimpArgs false
set_option linter.unusedSectionVars false
namespace Go.Proofs.YtkfifkijcknikaaDoor
section
open Go Go.RowKit
set_option maxRecDepth 100000
abbrev Env := List (Nat × Value)
/-- What a slot holds. -/
def lk : Env → Nat → Value
  | [], _ => undef
  | p :: E, i => bif Nat.beq i p.1 then p.2 else lk E i
def sl (n : Nat) (E : Env) : Act := { tmps := Array.ofFn fun i : Fin n => lk E i.1, defers := [] }
def evl (n : Nat) (E : Env) : Operand → Value
  | .tmp i => bif Nat.blt i n then lk E i else undef
  | .const v => v
  | .global g => .pointer (some ⟨g, 0, none⟩)
  | .func f => .func (.func f) #[] #[]
theorem blt_t {i n : Nat} (h : i < n) : Nat.blt i n = true := Nat.ble_eq_true_of_le h
theorem blt_f {i n : Nat} (h : ¬ i < n) : Nat.blt i n = false := by
  cases hb : Nat.blt i n
  · rfl
  · exact absurd (Nat.le_of_ble_eq_true hb) h
theorem tmps_sl (n : Nat) (E : Env) (i : Nat) : (sl n E).tmps.getD i undef = bif Nat.blt i n then lk E i else undef := by
  unfold sl
  simp only [Array.getD_eq_getD_getElem?]
  by_cases h : i < n
  · rw [Array.getElem?_eq_getElem (by simpa using h), Array.getElem_ofFn]
    rw [blt_t h]; rfl
  · rw [Array.getElem?_eq_none (by simpa using h), blt_f h]; rfl
theorem eval_sl (n : Nat) (E : Env) : (sl n E).eval = evl n E := funext fun op => by
  cases op with
  | tmp i => exact tmps_sl n E i
  | const v => rfl
  | global g => rfl
  | func f => rfl
theorem lk_cons (d : Nat) (v : Value) (E : Env) (i : Nat) : lk ((d, v) :: E) i = if i = d then v else lk E i := by
  show (bif Nat.beq i d then v else lk E i) = _
  by_cases h : i = d
  · subst h; simp [Nat.beq_refl]
  · have : Nat.beq i d = false := by rw [Bool.eq_false_iff]; intro h2; exact h (Nat.eq_of_beq_eq_true h2)
    rw [this, if_neg h]; rfl
theorem put_sl (n d : Nat) (E : Env) (v : Value) : (sl n E).put (some d) v = sl n ((d, v) :: E) := by
  show ({ tmps := (Array.ofFn fun i : Fin n => lk E i.1).setIfInBounds d v, defers := [] } : Act) = { tmps := Array.ofFn fun i : Fin n => lk ((d, v) :: E) i.1, defers := [] }
  congr 1
  apply Array.ext
  · simp
  · intro i h1 h2
    have h3 : i < n := by simpa using h2
    rw [Array.getElem_setIfInBounds (by simpa using h3), Array.getElem_ofFn, Array.getElem_ofFn, lk_cons]
    by_cases e : d = i
    · subst e; simp
    · rw [if_neg e, if_neg (fun h => e h.symm)]
theorem sl_congr {n : Nat} {E E' : Env} (h : ∀ i, i < n → lk E i = lk E' i) : sl n E = sl n E' := by
  unfold sl
  congr 1
  apply Array.ext
  · simp
  · intro i h1 h2
    rw [Array.getElem_ofFn, Array.getElem_ofFn]
    exact h i (by simpa using h1)
/-- Each entry of K stands in E. -/
def Kp : Env → Env → Prop
  | [], _ => True
  | p :: K, E => lk E p.1 = p.2 ∧ Kp K E
theorem lk_keep {E : Env} : ∀ {K : Env}, Kp K E → ∀ i, lk (K ++ E) i = lk E i
  | [], _, _ => rfl
  | p :: K, h, i => by
    obtain ⟨d, v⟩ := p
    show lk ((d, v) :: (K ++ E)) i = _
    rw [lk_cons]
    split
    · rename_i e; subst e; exact h.1.symm
    · exact lk_keep h.2 i
theorem sl_keep {n : Nat} {K E : Env} (h : Kp K E) : sl n E = sl n (K ++ E) := sl_congr fun i _ => (lk_keep h i).symm
def prs : Nat → List Value → Env
  | _, [] => []
  | k, v :: l => (k, v) :: prs (k + 1) l
theorem lk_prs : ∀ (l : List Value) (k i : Nat), lk (prs k l) i = if k ≤ i then l.getD (i - k) undef else undef
  | [], k, i => by unfold prs lk; simp
  | v :: l, k, i => by
    show lk ((k, v) :: prs (k + 1) l) i = _
    rw [lk_cons, lk_prs l (k + 1) i]
    by_cases e : i = k
    · subst e; simp
    · rw [if_neg e]
      by_cases h : k + 1 ≤ i
      · rw [if_pos h, if_pos (by omega), show i - k = (i - (k + 1)) + 1 by omega]; rfl
      · rw [if_neg h, if_neg (by omega)]
theorem sl_args (l : List Value) (n : Nat) (h : l.length ≤ n) : ({ tmps := l.toArray ++ Array.replicate (n - l.toArray.size) undef, defers := [] } : Act) = sl n (prs 0 l) := by
  unfold sl
  congr 1
  apply Array.ext
  · simp; omega
  · intro i h1 h2
    rw [Array.getElem_ofFn, lk_prs, if_pos (Nat.zero_le _), Nat.sub_zero]
    rcases Nat.lt_or_ge i l.length with hi | hi
    · rw [Array.getElem_append_left (by simpa using hi)]
      simp [List.getD_eq_getElem?_getD, hi]
    · rw [Array.getElem_append_right (by simpa using hi)]
      simp [List.getD_eq_getElem?_getD, List.getElem?_eq_none hi]
section
variable {P : Program} {Q : Exit → Act → World → Prop}
theorem calls_sl {f : FuncId} {fn : Func} {c : Code} {w : World} {R : Ending → World → Prop} {l : List Value} (n : Nat) (hf : P.funcs[f]? = some fn) (hb : fn.body = some c) (hn : fn.ntmps = n) (hl : l.length ≤ n)
    (h : c.wp P (bodyPost P fn R) (sl n (prs 0 l)) w) : Calls P f l.toArray w R := by
  refine calls_of_wp hf hb ?_
  rw [hn, sl_args l n hl]
  exact h
def yl (ops : Array Oper) (n : Nat) (E : Env) (j : Nat) : Option Bool :=
  match (ops[j]?).bind (·.dst) with
  | none => none
  | some d => bif Nat.blt d n then (match lk E d with | .bool b => some b | _ => none) else none
theorem yielded_sl (ops : Array Oper) (n : Nat) (E : Env) : yielded ops (sl n E).tmps = yl ops n E := funext fun j => by
  unfold yielded yl
  cases (ops[j]?).bind (·.dst) with
  | none => rfl
  | some d =>
    simp only [Option.bind_some]
    by_cases h : d < n
    · have e : (sl n E).tmps[d]? = some (lk E d) := by
        unfold sl
        rw [Array.getElem?_eq_getElem (by simpa using h), Array.getElem_ofFn]
      rw [e, blt_t h]
      show (match some (lk E d) with | some (Value.bool b) => some b | x => none) = (match lk E d with | .bool b => some b | _ => none)
      cases lk E d <;> rfl
    · have e : (sl n E).tmps[d]? = none := by unfold sl; exact Array.getElem?_eq_none (by simpa using h)
      rw [e, blt_f h]
      rfl
/-- Whether an operation runs. -/
def wnt (ops : Array Oper) (n : Nat) (E : Env) (o : Oper) : Bool :=
  match o.guard with
  | none => true
  | some (j, b) => match yl ops n E j with | some c => c == b | none => false
theorem wanted_sl (ops : Array Oper) (n : Nat) (E : Env) (o : Oper) : Region.wanted o (yielded ops (sl n E).tmps) = wnt ops n E o := by
  rw [yielded_sl]
  unfold Region.wanted wnt
  cases o.guard with
  | none => rfl
  | some p =>
    obtain ⟨j, b⟩ := p
    show (yl ops n E j == some b) = (match yl ops n E j with | some c => c == b | none => false)
    cases yl ops n E j <;> rfl
theorem ret_sl {fn : Func} {R : Ending → World → Prop} {n t : Nat} {E : Env} {w : World} (v : Value) (hf : fn.results = #[.tmp t]) (hv : (bif Nat.blt t n then lk E t else undef) = v) (h : R (.returned v) w) : bodyPost P fn R .ret (sl n E) w := by
  refine bodyPost_ret (v := v) ?_ rfl h
  unfold results
  rw [hf]
  simp only [go_sem, List.mapM_toArray, List.mapM_cons, List.mapM_nil]
  have e := tmps_sl n E t
  rw [hv] at e
  rw [Array.getD_eq_getD_getElem?] at e
  simp [go_sem, e]
/-- What is left of a region's operations (a structure, so that nothing unfolds it). -/
structure WL (P : Program) (ops : Array Oper) (Q : Exit → Act → World → Prop) (l : List Oper) (n : Nat) (E : Env) (w : World) : Prop where
  out : wpList P ops Q l (sl n E) w
theorem reg_lit {id : Nat} {l : List Oper} {n : Nat} {E : Env} {w : World} (h : WL P l.toArray Q l n E w) : (Code.region id l.toArray false).wp P Q (sl n E) w := wp_region_lit h.out
theorem wpl_end {ops : Array Oper} {n : Nat} {E : Env} {w : World} (h : Q .normal (sl n E) w) : WL P ops Q [] n E w := ⟨h⟩
theorem then_normal {next : Act → World → Prop} {a : Act} {w : World} (h : next a w) : Exit.then next Q .normal a w := h
theorem wpl_act {ops : Array Oper} {o : Oper} {rest : List Oper} {n : Nat} {E : Env} {w : World} (hw : wnt ops n E o = true) (h : o.wp P (sl n E) w (wpList P ops Q rest) Q) : WL P ops Q (o :: rest) n E w := by
  constructor
  unfold wpList
  rw [wanted_sl, hw]
  exact Or.inl h
theorem wpl_val {ops : Array Oper} {o : Oper} {rest : List Oper} {n d : Nat} {E : Env} {w w' : World} {v : Value} (hd : o.dst = some d) (hw : wnt ops n E o = true) (hr : (execOp (evl n E) o).run P w = .ok (.value v) w')
    (h : WL P ops Q rest n ((d, v) :: E) w') : WL P ops Q (o :: rest) n E w := by
  refine wpl_act hw ?_
  unfold Oper.wp
  rw [eval_sl, hr, Oper.upon_value, hd, put_sl]
  exact h.out
theorem wpl_none {ops : Array Oper} {o : Oper} {rest : List Oper} {n : Nat} {E : Env} {w w' : World} (hd : o.dst = none) (hw : wnt ops n E o = true) (hr : (execOp (evl n E) o).run P w = .ok .skip w')
    (h : WL P ops Q rest n E w') : WL P ops Q (o :: rest) n E w := by
  refine wpl_act hw ?_
  unfold Oper.wp
  rw [eval_sl, hr, Oper.upon_skip, hd]
  exact h.out
theorem wpl_off {ops : Array Oper} {o : Oper} {rest : List Oper} {n d : Nat} {E : Env} {w : World} (hd : o.dst = some d) (hw : wnt ops n E o = false)
    (h : WL P ops Q rest n ((d, undef) :: E) w) : WL P ops Q (o :: rest) n E w := by
  constructor
  unfold wpList
  rw [wanted_sl, hw, hd, put_sl]
  exact h.out
theorem wpl_call {ops : Array Oper} {o : Oper} {rest : List Oper} {n d : Nat} {E : Env} {w : World} {f : FuncId} {args : Array Value} (hd : o.dst = some d) (hw : wnt ops n E o = true) (hr : (execOp (evl n E) o).run P w = .ok (.enter f args) w)
    (hc : Calls P f args w fun e w' => ∃ v, e = .returned v ∧ WL P ops Q rest n ((d, v) :: E) w') : WL P ops Q (o :: rest) n E w := by
  refine wpl_act hw ?_
  unfold Oper.wp
  rw [eval_sl, hr, Oper.upon_enter]
  refine hc.mono ?_
  rintro e w' ⟨v, rfl, h⟩
  show wpList P ops Q rest ((sl n E).put o.dst v) w'
  rw [hd, put_sl]
  exact h.out
/-- Several operations that only compute, one behind the other. -/
def runK (P : Program) (ops : Array Oper) (n : Nat) : Nat → List Oper → Env → World → Option (Env × World)
  | 0, _, E, w => some (E, w)
  | _ + 1, [], _, _ => none
  | k + 1, o :: os, E, w =>
    bif wnt ops n E o then
      match (execOp (evl n E) o).run P w with
      | .ok (.value v) w' => (match o.dst with | some d => runK P ops n k os ((d, v) :: E) w' | none => none)
      | _ => none
    else (match o.dst with | some d => runK P ops n k os ((d, undef) :: E) w | none => none)
theorem wpl_run {ops : Array Oper} {n : Nat} : ∀ (k : Nat) {os : List Oper} {E E' : Env} {w w' : World}, runK P ops n k os E w = some (E', w') → WL P ops Q (os.drop k) n E' w' → WL P ops Q os n E w
  | 0, os, E, E', w, w', hr, h => by
    unfold runK at hr
    simp only [Option.some.injEq, Prod.mk.injEq] at hr
    obtain ⟨rfl, rfl⟩ := hr
    exact h
  | k + 1, [], E, E', w, w', hr, h => by unfold runK at hr; cases hr
  | k + 1, o :: os, E, E', w, w', hr, h => by
    unfold runK at hr
    cases hw : wnt ops n E o
    · rw [hw] at hr
      simp only [cond_false] at hr
      cases hd : o.dst with
      | none => rw [hd] at hr; cases hr
      | some d =>
        rw [hd] at hr
        exact wpl_off hd hw (wpl_run k hr h)
    · rw [hw] at hr
      simp only [cond_true] at hr
      cases he : (execOp (evl n E) o).run P w with
      | halt x y => rw [he] at hr; cases hr
      | ok x y =>
        cases x with
        | value v =>
          rw [he] at hr
          cases hd : o.dst with
          | none => rw [hd] at hr; cases hr
          | some d =>
            rw [hd] at hr
            exact wpl_val hd hw he (wpl_run k hr h)
        | _ => rw [he] at hr; cases hr
theorem wpl_runN {ops : Array Oper} {n : Nat} (k : Nat) (N : Env) {os : List Oper} {E : Env} {w : World} (hr : runK P ops n k os E w = some (N ++ E, w)) (h : WL P ops Q (os.drop k) n (N ++ E) w) : WL P ops Q os n E w := wpl_run k hr h
theorem wpl_r1 {ops : Array Oper} {n : Nat} {o0 : Oper} {rest : List Oper} {E : Env} {w : World} (N : Env) (hr : runK P ops n 1 (o0 :: rest) E w = some (N ++ E, w)) (h : WL P ops Q rest n (N ++ E) w) : WL P ops Q (o0 :: rest) n E w := wpl_run (k := 1) hr h
theorem wpl_r2 {ops : Array Oper} {n : Nat} {o0 o1 : Oper} {rest : List Oper} {E : Env} {w : World} (N : Env) (hr : runK P ops n 2 (o0 :: o1 :: rest) E w = some (N ++ E, w)) (h : WL P ops Q rest n (N ++ E) w) : WL P ops Q (o0 :: o1 :: rest) n E w := wpl_run (k := 2) hr h
theorem wpl_r4 {ops : Array Oper} {n : Nat} {o0 o1 o2 o3 : Oper} {rest : List Oper} {E : Env} {w : World} (N : Env) (hr : runK P ops n 4 (o0 :: o1 :: o2 :: o3 :: rest) E w = some (N ++ E, w)) (h : WL P ops Q rest n (N ++ E) w) : WL P ops Q (o0 :: o1 :: o2 :: o3 :: rest) n E w := wpl_run (k := 4) hr h
theorem wpl_r6 {ops : Array Oper} {n : Nat} {o0 o1 o2 o3 o4 o5 : Oper} {rest : List Oper} {E : Env} {w : World} (N : Env) (hr : runK P ops n 6 (o0 :: o1 :: o2 :: o3 :: o4 :: o5 :: rest) E w = some (N ++ E, w)) (h : WL P ops Q rest n (N ++ E) w) : WL P ops Q (o0 :: o1 :: o2 :: o3 :: o4 :: o5 :: rest) n E w := wpl_run (k := 6) hr h
theorem wp_ift {c : Operand} {x y : Code} {n : Nat} {E : Env} {w : World} (hc : evl n E c = .bool true) (h : x.wp P Q (sl n E) w) : (Code.cond c x y).wp P Q (sl n E) w := wp_cond_true (by rw [eval_sl]; exact hc) h
theorem wp_iff {c : Operand} {x y : Code} {n : Nat} {E : Env} {w : World} (hc : evl n E c = .bool false) (h : y.wp P Q (sl n E) w) : (Code.cond c x y).wp P Q (sl n E) w := wp_cond_false (by rw [eval_sl]; exact hc) h
end
end
section
open Go Go.RowKit
set_option maxRecDepth 100000
def lsm (N m : Nat) : Array Bool := Array.ofFn fun i : Fin N => m.testBit i.1
theorem lsm_get (N m i : Nat) : (lsm N m)[i]? = if i < N then some (m.testBit i) else none := by
  unfold lsm
  by_cases h : i < N
  · rw [if_pos h, Array.getElem?_eq_getElem (by simpa using h), Array.getElem_ofFn]
  · rw [if_neg h, Array.getElem?_eq_none (by simpa using h)]
theorem lsm_getD (N m i : Nat) (b : Bool) : (lsm N m).getD i b = if i < N then m.testBit i else b := by
  rw [Array.getD_eq_getD_getElem?, lsm_get]
  split <;> rfl
theorem lsm_set (N m i : Nat) : (lsm N m).setIfInBounds i true = lsm N (m ||| (1 <<< i)) := by
  apply Array.ext_getElem?
  intro j
  rw [Array.getElem?_setIfInBounds, lsm_get, lsm_get, Nat.testBit_or]
  have hs : (lsm N m).size = N := by unfold lsm; simp
  have ht : (1 <<< i).testBit j = decide (i = j) := by rw [Nat.one_shiftLeft, Nat.testBit_two_pow]
  rw [hs, ht]
  by_cases e : i = j
  · subst e; simp
  · simp [e]
theorem lsm_zero (N : Nat) : Array.replicate N false = lsm N 0 := by
  apply Array.ext_getElem?
  intro j
  rw [Array.getElem?_replicate, lsm_get]
  simp
section
variable {P : Program} {Q : Exit → Act → World → Prop} {ops : Array Oper}
/-- Whether an operation's turn may come. -/
def rdyB (ops : Array Oper) (N m i : Nat) : Bool :=
  Nat.blt i N && (!m.testBit i && (match ops[i]? with | none => false | some o => o.after.all fun e => !Region.binds .any e || (Nat.blt e.on N && m.testBit e.on)))
theorem rdyB_iff {N m i : Nat} : rdyB ops N m i = true ↔ i ∈ Region.ready .any ops (lsm N m) := by
  rw [mem_ready, lsm_getD]
  unfold rdyB
  rw [Bool.and_eq_true, Bool.and_eq_true]
  by_cases h : i < N
  · rw [if_pos h, blt_t h]
    simp only [true_and, Bool.not_eq_true']
    refine and_congr Iff.rfl ?_
    cases ho : ops[i]? with
    | none => simp
    | some o =>
      simp only [Option.some.injEq, exists_eq_left']
      rw [Array.all_eq_true_iff_forall_mem]
      refine forall_congr' fun e => forall_congr' fun _ => ?_
      rw [lsm_getD]
      by_cases h2 : e.on < N
      · rw [if_pos h2, blt_t h2]; cases Region.binds .any e <;> simp
      · rw [if_neg h2, blt_f h2]; cases Region.binds .any e <;> simp
  · rw [if_neg h, blt_f h]; simp
/-- Only this operation's turn may come. -/
def onlyB (ops : Array Oper) (N m i : Nat) : Bool := rdyB ops N m i && (List.range N).all fun j => Nat.beq j i || !rdyB ops N m j
theorem ready_lt {N m i : Nat} (h : i ∈ Region.ready .any ops (lsm N m)) : i < N := by
  have := rdyB_iff.2 h
  unfold rdyB at this
  rw [Bool.and_eq_true] at this
  exact Nat.le_of_ble_eq_true this.1
theorem onlyB_spec {N m i : Nat} (h : onlyB ops N m i = true) : i ∈ Region.ready .any ops (lsm N m) ∧ ∀ j ∈ Region.ready .any ops (lsm N m), j = i := by
  unfold onlyB at h
  rw [Bool.and_eq_true, List.all_eq_true] at h
  refine ⟨rdyB_iff.1 h.1, fun j hj => ?_⟩
  have := h.2 j (List.mem_range.2 (ready_lt hj))
  rw [Bool.or_eq_true] at this
  rcases this with h1 | h1
  · exact Nat.eq_of_beq_eq_true h1
  · rw [rdyB_iff.2 hj] at h1; cases h1
def noneB (ops : Array Oper) (N m : Nat) : Bool := (List.range N).all fun j => !rdyB ops N m j
theorem noneB_spec {N m : Nat} (h : noneB ops N m = true) : Region.ready .any ops (lsm N m) = [] := by
  cases hr : Region.ready .any ops (lsm N m) with
  | nil => rfl
  | cons j l =>
    exfalso
    have hj : j ∈ Region.ready .any ops (lsm N m) := by rw [hr]; simp
    unfold noneB at h
    rw [List.all_eq_true] at h
    have := h j (List.mem_range.2 (ready_lt hj))
    rw [rdyB_iff.2 hj] at this
    cases this
/-- The other operations that are not done neither see what this one writes nor write what it sees, or wait for it. -/
def freeB (ops : Array Oper) (N m i : Nat) (o : Oper) : Bool :=
  (List.range N).all fun j => Nat.beq j i || (m.testBit j || match ops[j]? with
    | some oj => oj.after.any (fun e => Region.binds .any e && e.on == i) || o.apart ops oj
    | none => true)
theorem freeB_spec {m i : Nat} {o : Oper} (hi : ops[i]? = some o) (h : freeB ops ops.size m i o = true) : Region.free .any ops (lsm ops.size m) i = true := by
  unfold Region.free
  rw [hi]
  simp only
  unfold freeB at h
  rw [List.all_eq_true] at h ⊢
  intro j hj
  have := h j hj
  rw [lsm_getD, if_pos (List.mem_range.1 hj)]
  rw [Bool.or_eq_true, Bool.or_eq_true] at this
  rw [Bool.or_eq_true, Bool.or_eq_true]
  rcases this with h1 | h1 | h1
  · exact Or.inl (Or.inl (by rw [beq_iff_eq]; exact Nat.eq_of_beq_eq_true h1))
  · exact Or.inl (Or.inr h1)
  · exact Or.inr h1
/-- What is so of a region's text. -/
structure Rg (ops : Array Oper) (n : Nat) : Prop where
  ns : Region.noSelect ops = true
  sk : Region.sinkB .any ops n = true
  ch : Region.chainB .any ops n = true
  lt : n < ops.size
def anyE (P : Program) (ops : Array Oper) (Q : Exit → Act → World → Prop) (W : World) (n fuel m k : Nat) (E : Env) (w : World) : Prop :=
  anyT P .any ops Q (fun x => Below W.heap.size W x) n fuel (lsm ops.size m) (sl k E) w
def anyR (P : Program) (ops : Array Oper) (Q : Exit → Act → World → Prop) (W : World) (n fuel m k : Nat) (E : Env) (w : World) : Prop :=
  Below W.heap.size W w → HeadInv .any ops n (lsm ops.size m) → anyE P ops Q W n fuel m k E w
theorem region_R {id n N k : Nat} {E : Env} {w : World} (hm : P.follows .mixedOrders = true) (hN : ops.size = N) (ns : Region.noSelect ops = true) (sk : Region.sinkB .any ops n = true) (ch : Region.chainB .any ops n = true) (lt : Nat.blt n N = true)
    (hQ : ∀ c a d v w, Q (.panic c) (Act.put a (some d) v) w → Q (.panic c) a w) (h : Rg ops n → (∀ c a d v w, Q (.panic c) (Act.put a (some d) v) w → Q (.panic c) a w) → anyR P ops Q w n N 0 k E w.drew) : (Code.region id ops true).wp P Q (sl k E) w := by
  refine region_anyT (S := fun x => Below w.heap.size w x) (n := n) hm (Below.refl _ _).drew fun hS inv => ?_
  rw [lsm_zero] at inv ⊢
  subst hN
  exact h ⟨ns, sk, ch, Nat.le_of_ble_eq_true lt⟩ hQ hS inv
variable {W w : World} {n fuel m k : Nat} {E : Env}
theorem anyR_val {i d m' : Nat} {o : Oper} {v : Value} (F : Rg ops n) (hQ : ∀ c a d v w, Q (.panic c) (Act.put a (some d) v) w → Q (.panic c) a w) (hi : ops[i]? = some o) (hd : o.dst = some d) (hin : Nat.blt i n = true) (hf : freeB ops ops.size m i o = true) (hr : rdyB ops ops.size m i = true)
    (hw : wnt ops k E o = true) (hm : Nat.lor m (Nat.shiftLeft 1 i) = m') (hy : ∀ w', Below W.heap.size W w' → (execOp (evl k E) o).run P w' = .ok (.value v) w') (h : anyR P ops Q W n fuel m' k ((d, v) :: E) w) : anyR P ops Q W n (fuel + 1) m k E w := fun hS inv => by
  unfold anyE
  have hin' : i < n := Nat.le_of_ble_eq_true hin
  refine anyT_take hi F.ns F.sk F.ch F.lt hin' (freeB_spec hi hf) (by simpa using rdyB_iff.1 hr) inv (v := v) ?_ (Or.inl ⟨by rw [wanted_sl]; exact hw, fun w' hw' => by rw [eval_sl]; exact hy w' hw'⟩) hS fun inv' => ?_
  · intro c a w hq
    rw [hd] at hq
    exact hQ _ _ _ _ _ hq
  · rw [lsm_set, show m ||| 1 <<< i = m' from hm] at inv' ⊢
    rw [hd, put_sl]
    exact h hS inv'
theorem anyR_off {i d m' : Nat} {o : Oper} (F : Rg ops n) (hQ : ∀ c a d v w, Q (.panic c) (Act.put a (some d) v) w → Q (.panic c) a w) (hi : ops[i]? = some o) (hd : o.dst = some d) (hin : Nat.blt i n = true) (hf : freeB ops ops.size m i o = true) (hr : rdyB ops ops.size m i = true)
    (hw : wnt ops k E o = false) (hm : Nat.lor m (Nat.shiftLeft 1 i) = m') (h : anyR P ops Q W n fuel m' k ((d, undef) :: E) w) : anyR P ops Q W n (fuel + 1) m k E w := fun hS inv => by
  unfold anyE
  have hin' : i < n := Nat.le_of_ble_eq_true hin
  refine anyT_take hi F.ns F.sk F.ch F.lt hin' (freeB_spec hi hf) (by simpa using rdyB_iff.1 hr) inv (v := undef) ?_ (Or.inr ⟨by rw [wanted_sl]; exact hw, rfl⟩) hS fun inv' => ?_
  · intro c a w hq
    rw [hd] at hq
    exact hQ _ _ _ _ _ hq
  · rw [lsm_set, show m ||| 1 <<< i = m' from hm] at inv' ⊢
    rw [hd, put_sl]
    exact h hS inv'
theorem anyR_call {i d m' : Nat} {o : Oper} {f : FuncId} {args : Array Value} (hi : ops[i]? = some o) (hd : o.dst = some d) (hin : Nat.blt i n = true) (ho : onlyB ops ops.size m i = true) (hw : wnt ops k E o = true) (hm : Nat.lor m (Nat.shiftLeft 1 i) = m')
    (hr : (execOp (evl k E) o).run P w = .ok (.enter f args) w) (hc : Calls P f args w fun e w' => ∃ v, e = .returned v ∧ Below w.heap.size w w' ∧ anyR P ops Q W n fuel m' k ((d, v) :: E) w') : anyR P ops Q W n (fuel + 1) m k E w := fun hS inv => by
  unfold anyE
  have hin' : i < n := Nat.le_of_ble_eq_true hin
  obtain ⟨h1, h2⟩ := onlyB_spec ho
  refine ⟨fun h0 => (by rw [h0] at h1; cases h1), fun j hj => ?_⟩
  obtain rfl := h2 j hj
  refine wpOp_step hi fun K hK => ?_
  rw [wanted_sl, hw, if_pos rfl]
  unfold Oper.wp
  rw [eval_sl, hr, Oper.upon_enter]
  refine hc.mono ?_
  rintro e w' ⟨v, rfl, hb, h⟩
  show K ((sl k E).put o.dst v) w'
  have hS' : Below W.heap.size W w' := hS.trans (hb.mono hS.size)
  refine hK _ _ ⟨fun _ => hS', ?_⟩
  have inv' := inv.set hj hin'
  rw [lsm_set, show m ||| 1 <<< j = m' from hm] at inv' ⊢
  rw [hd, put_sl]
  exact h hS' inv'
/-- The forced end: an operation that yields a value, and none is left. -/
theorem anyR_last {i d m' : Nat} {o : Oper} {v : Value} (hi : ops[i]? = some o) (hd : o.dst = some d) (ho : onlyB ops ops.size m i = true) (hw : wnt ops k E o = true) (hm : Nat.lor m (Nat.shiftLeft 1 i) = m')
    (hin : Nat.ble n i = true) (hr : (execOp (evl k E) o).run P w = .ok (.value v) w) (h : anyE P ops Q W n fuel m' k ((d, v) :: E) w) : anyE P ops Q W n (fuel + 1) m k E w := by
  unfold anyE
  obtain ⟨h1, h2⟩ := onlyB_spec ho
  refine ⟨fun h0 => (by rw [h0] at h1; cases h1), fun j hj => ?_⟩
  obtain rfl := h2 j hj
  refine wpOp_step hi fun K hK => ?_
  rw [wanted_sl, hw, if_pos rfl]
  unfold Oper.wp
  rw [eval_sl, hr, Oper.upon_value]
  have hge : n ≤ j := Nat.le_of_ble_eq_true hin
  refine hK _ _ ⟨fun h0 => absurd h0 (by omega), ?_⟩
  rw [lsm_set, show m ||| 1 <<< j = m' from hm, hd, put_sl]
  exact h
theorem anyR_e (h : anyE P ops Q W n fuel m k E w) : anyR P ops Q W n fuel m k E w := fun _ _ => h
theorem anyE_done (hr : noneB ops ops.size m = true) (h : Q .normal (sl k E) w) : anyE P ops Q W n fuel m k E w := anyT_done (noneB_spec hr) h _
/-- An operation's turn has come: what is left to show. -/
def StepR (P : Program) (ops : Array Oper) (Q : Exit → Act → World → Prop) (W : World) (n fuel m k : Nat) (E : Env) (w : World) (i : Nat) : Prop :=
  Below W.heap.size W w → HeadInv .any ops n (lsm ops.size m) → i ∈ Region.ready .any ops (lsm ops.size m) → wpOp P ops Q i (fun a' w' => (i < n → Below W.heap.size W w') ∧ anyT P .any ops Q (fun x => Below W.heap.size W x) n fuel ((lsm ops.size m).setIfInBounds i true) a' w') (sl k E) w
def AllR (P : Program) (ops : Array Oper) (Q : Exit → Act → World → Prop) (W : World) (n fuel m k : Nat) (E : Env) (w : World) : List Nat → Prop
  | [] => True
  | i :: l => StepR P ops Q W n fuel m k E w i ∧ AllR P ops Q W n fuel m k E w l
def rdyL (ops : Array Oper) (N m : Nat) : List Nat := (List.range N).filter fun i => rdyB ops N m i
theorem rdyL_spec {N m i : Nat} : i ∈ Region.ready .any ops (lsm N m) ↔ i ∈ rdyL ops N m := by
  unfold rdyL
  rw [List.mem_filter, List.mem_range, ← rdyB_iff]
  exact ⟨fun h => ⟨ready_lt (rdyB_iff.1 h), h⟩, fun h => h.2⟩
theorem AllR.get {l : List Nat} (h : AllR P ops Q W n fuel m k E w l) : ∀ i ∈ l, StepR P ops Q W n fuel m k E w i := by
  induction l with
  | nil => intro i hi; cases hi
  | cons j l ih =>
    intro i hi
    rcases List.mem_cons.1 hi with rfl | hi
    · exact h.1
    · exact ih h.2 i hi
theorem anyR_split (rs : List Nat) (hr : rdyL ops ops.size m = rs) (hne : rs.isEmpty = false) (h : AllR P ops Q W n fuel m k E w rs) : anyR P ops Q W n (fuel + 1) m k E w := fun hS inv => by
  unfold anyE
  refine ⟨fun h0 => ?_, fun i hi => ?_⟩
  · exfalso
    cases rs with
    | nil => cases hne
    | cons i l =>
      have : i ∈ Region.ready .any ops (lsm ops.size m) := rdyL_spec.2 (by rw [hr]; simp)
      rw [h0] at this; cases this
  · have h1 := rdyL_spec.1 hi
    rw [hr] at h1
    exact h.get i h1 hS inv hi
theorem stepR_call {i d m' : Nat} {o : Oper} {f : FuncId} {args : Array Value} (hi : ops[i]? = some o) (hd : o.dst = some d) (hin : Nat.blt i n = true) (hw : wnt ops k E o = true) (hm : Nat.lor m (Nat.shiftLeft 1 i) = m')
    (hr : (execOp (evl k E) o).run P w = .ok (.enter f args) w) (hc : Calls P f args w fun e w' => ∃ v, e = .returned v ∧ Below w.heap.size w w' ∧ anyR P ops Q W n fuel m' k ((d, v) :: E) w') : StepR P ops Q W n fuel m k E w i := fun hS inv hj => by
  have hin' : i < n := Nat.le_of_ble_eq_true hin
  refine wpOp_step hi fun K hK => ?_
  rw [wanted_sl, hw, if_pos rfl]
  unfold Oper.wp
  rw [eval_sl, hr, Oper.upon_enter]
  refine hc.mono ?_
  rintro e w' ⟨v, rfl, hb, h⟩
  show K ((sl k E).put o.dst v) w'
  have hS' : Below W.heap.size W w' := hS.trans (hb.mono hS.size)
  refine hK _ _ ⟨fun _ => hS', ?_⟩
  have inv' := inv.set hj hin'
  rw [lsm_set, show m ||| 1 <<< i = m' from hm] at inv' ⊢
  rw [hd, put_sl]
  exact h hS' inv'
theorem stepR_val {i d m' : Nat} {o : Oper} {v : Value} {w' : World} (hi : ops[i]? = some o) (hd : o.dst = some d) (hin : Nat.blt i n = true) (hw : wnt ops k E o = true) (hm : Nat.lor m (Nat.shiftLeft 1 i) = m')
    (hr : (execOp (evl k E) o).run P w = .ok (.value v) w') (hb : Below w.heap.size w w') (h : anyR P ops Q W n fuel m' k ((d, v) :: E) w') : StepR P ops Q W n fuel m k E w i := fun hS inv hj => by
  have hin' : i < n := Nat.le_of_ble_eq_true hin
  refine wpOp_step hi fun K hK => ?_
  rw [wanted_sl, hw, if_pos rfl]
  unfold Oper.wp
  rw [eval_sl, hr, Oper.upon_value]
  have hS' : Below W.heap.size W w' := hS.trans (hb.mono hS.size)
  refine hK _ _ ⟨fun _ => hS', ?_⟩
  have inv' := inv.set hj hin'
  rw [lsm_set, show m ||| 1 <<< i = m' from hm] at inv' ⊢
  rw [hd, put_sl]
  exact h hS' inv'
/-- The forced end: an operation that yields nothing (a store). -/
theorem anyE_none {i m' : Nat} {o : Oper} {w' : World} (hi : ops[i]? = some o) (hd : o.dst = none) (ho : onlyB ops ops.size m i = true) (hw : wnt ops k E o = true) (hm : Nat.lor m (Nat.shiftLeft 1 i) = m')
    (hin : Nat.ble n i = true) (hr : (execOp (evl k E) o).run P w = .ok .skip w') (h : anyE P ops Q W n fuel m' k E w') : anyE P ops Q W n (fuel + 1) m k E w := by
  unfold anyE
  obtain ⟨h1, h2⟩ := onlyB_spec ho
  refine ⟨fun h0 => (by rw [h0] at h1; cases h1), fun j hj => ?_⟩
  obtain rfl := h2 j hj
  refine wpOp_step hi fun K hK => ?_
  rw [wanted_sl, hw, if_pos rfl]
  unfold Oper.wp
  rw [eval_sl, hr, Oper.upon_skip]
  have hge : n ≤ j := Nat.le_of_ble_eq_true hin
  refine hK _ _ ⟨fun h0 => absurd h0 (by omega), ?_⟩
  rw [lsm_set, show m ||| 1 <<< j = m' from hm, hd]
  exact h
/-- What comes behind is shown once, of whatever meets Post. -/
theorem wp_cut {c : Code} {E0 : Env} (Post : Env → World → Prop) (h : c.wp P (Exit.then (fun a w' => ∃ E, a = sl k E ∧ Post E w') Q) (sl k E0) w) (h2 : ∀ E w', Post E w' → Q .normal (sl k E) w') : c.wp P Q (sl k E0) w :=
  Go.wp_mono h fun e a w' hq => by
    cases e with
    | normal => obtain ⟨E, rfl, hp⟩ := hq; exact h2 E w' hp
    | _ => exact hq
theorem Kp_n {E : Env} : Kp [] E := trivial
theorem Kp_c {E K : Env} {d : Nat} {v : Value} (h : lk E d = v) (hk : Kp K E) : Kp ((d, v) :: K) E := ⟨h, hk⟩
/-- As wp_cut, where what stands in the slots is said by K. -/
theorem wp_cutK {c : Code} {E0 : Env} {α : Type} (K : α → Env) (Post : α → World → Prop) (h : c.wp P (Exit.then (fun a w' => ∃ p E, a = sl k E ∧ Kp (K p) E ∧ Post p w') Q) (sl k E0) w) (h2 : ∀ p X w', Post p w' → Q .normal (sl k (K p ++ X)) w') : c.wp P Q (sl k E0) w :=
  Go.wp_mono h fun e a w' hq => by
    cases e with
    | normal => obtain ⟨p, E, rfl, hk, hp⟩ := hq; rw [sl_keep hk]; exact h2 p E w' hp
    | _ => exact hq
end
end
section
open Go.RowKit
set_option maxRecDepth 100000
set_option linter.unusedSimpArgs false
set_option linter.unusedVariables false
theorem extension_any (A : Option Addr) (a : List Int) (c : Nat) (s : Bool) (w0 w : World) (h1 : 0 < a.length) (ha : a.length ≤ 4096) (hA : RQ w A a) :
    Calls Tryd.prog 63 #[.agg #[.slice A a.length c, .bool s]] w (Mk (.int .u8 (xt ⟨a, s⟩)) w) := by
  obtain ⟨ad, rfl, hb, hc⟩ := hA.at_ (i := a.length - 1) (by omega)
  clear hA
  have e : xt ⟨a, s⟩ = if s then qt a (a.length - 1) else 0 := rfl
  rw [e]
  clear e
  obtain ⟨n, hn⟩ : ∃ n, a.length = n + 1 := ⟨a.length - 1, by omega⟩
  have hm : n ≤ 4096 := by omega
  rw [hn] at hc ⊢
  simp only [Nat.add_sub_cancel] at hc ⊢
  generalize qt a n = v at *
  clear hn ha h1
  have HB := hide hb
  cases s
  · go_enter Tryd.func63, Tryd.ntmps63
    go_wp2
    go_ret
    exact ⟨rfl, (Below.refl _ _).alloc (Nat.le_refl _) _⟩
  · go_enter Tryd.func63, Tryd.ntmps63
    have hc2 : (w.alloc (.cells #[.slice (some ad) (n + 1) c, .bool true] 24)).cell? (ad.add n) = some (.int .u8 v) := ((Below.refl w.heap.size w).alloc (Nat.le_refl _) _).cell (p := ad.add n) (by rw [block_of_add]; exact hb) |>.trans hc
    go_wp2
    go_ret
    exact ⟨rfl, (Below.refl _ _).alloc (Nat.le_refl _) _⟩
theorem FillQ.step2 {w wr : World} {n k : Nat} {f : Nat → Int} (h : FillQ w n k f wr) (u : Int) : FillQ w n (k + 1) f ((wr.setCell ⟨w.heap.size, k, none⟩ (.int .u8 u)).setCell ⟨w.heap.size, k, none⟩ (.int .u8 (f k))) where
  row := ((h.row.set_ k _).set_ k _).congr fun j _ => by
    rw [← ParQ.step k f j]
    by_cases e : j = k <;> simp [e]
  bel := (h.bel.setCell (by simp) _).setCell (by simp) _
set_option maxHeartbeats 1000000 in
theorem window_any (A : Option Addr) (a : List Int) (c n : Nat) (lo f : Int) (w : World) (ha : a.length ≤ 4096) (hn : n ≤ 4096) (h1 : -9223372036854775808 ≤ lo) (h2 : lo + n ≤ 9223372036854775808) (hA : RQ w A a) :
    Calls Tryd.prog 34 #[.slice A a.length c, .int .i64 lo, .int .i64 n, .int .u8 f] w (MkQ (wdw a lo n f) w) := by
  have HA := hide hA
  clear hA
  obtain ⟨F, hF⟩ : ∃ F : Nat → Int, F = fun (i : Nat) => if 0 ≤ lo + i ∧ lo + i < a.length then qt a (lo + i).toNat else f := ⟨_, rfl⟩
  have HF := hide hF
  clear hF
  have HE : Hid (wdw a lo n f = ql n F) := hide (by rw [HF.out]; rfl)
  go_enter Tryd.func34, Tryd.ntmps34
  go_wp2_with (at_make; refine wpList_make_q _ rfl _ _ rfl _ _ n rfl rfl rfl rfl hn ?_; intro w1 hr1 hb1 hz1)
  go_loopw [16] (fun i wr => ∃ k : Nat, k ≤ n ∧ i = .int .i64 k ∧ FillQ w n k F wr) (fun i _ => n - (intOf i).toNat)
  case atStart => exact ⟨0, Nat.zero_le _, rfl, FillQ.start hr1 hb1⟩
  case round =>
    obtain ⟨k, hk, rfl, hR⟩ := hrel
    clear hr1 hb1
    by_cases hlt : k < n
    · have hRH := hide hR
      have hcg : wr.cell? ⟨w.heap.size, k, none⟩ = some (.int .u8 (ParQ k F k)) := hR.row.cell hlt
      have hf : wr.frozen? ⟨w.heap.size, k, none⟩ = false := hR.row.free _
      have hb3 : -9223372036854775808 ≤ lo + k := by omega
      have hb4 : lo + k ≤ 9223372036854775807 := by omega
      by_cases hin : 0 ≤ lo + k ∧ lo + k < a.length
      · obtain ⟨ad, rfl, hlt1, hc0⟩ := HA.out.at_ (i := (lo + k).toNat) (by omega)
        have hc : (wr.setCell ⟨w.heap.size, k, none⟩ (.int .u8 f)).cell? (ad.add (lo + k).toNat) = some (.int .u8 (qt a (lo + k).toNat)) := ((hR.bel.setCell (by simp) _).cell (p := ad.add (lo + k).toNat) (by rw [block_of_add]; exact hlt1)).trans hc0
        have hval : Hid (F k = qt a (lo + k).toNat) := hide (by rw [HF.out]; exact if_pos hin)
        clear hR
        obtain ⟨h5, h6⟩ := hin
        go_wp2
        go_roundw
        case rel => exact ⟨k + 1, by omega, by go_num, by rw [← hval.out]; exact hRH.out.step2 f⟩
        case measure => simp [intOf]; omega
      · have hval : Hid (F k = f) := hide (by rw [HF.out]; exact if_neg hin)
        clear hR
        rcases (show lo + (k : Int) < 0 ∨ (0 ≤ lo + (k : Int) ∧ (a.length : Int) ≤ lo + k) by omega) with h5 | ⟨h5, h6⟩
        all_goals
          clear hin
          go_wp2
          go_roundw
          case rel => exact ⟨k + 1, by omega, by go_num, by rw [← hval.out]; exact hRH.out.step⟩
          case measure => simp [intOf]; omega
    · have hRH := hide hR
      clear hR
      go_wp2
      go_ret
      have e : k = n := by omega
      subst e
      exact FillQ.done (c := 0) hRH.out HE.out hn
section
variable {w W w' : World} {g g2 : Nat} {x y x2 y2 : Value}
theorem k1_bel (h : Below w.heap.size w W ∧ g < W.heap.size ∧ W.cell? ⟨g, 0, none⟩ = some x ∧ W.cell? ⟨g, 1, none⟩ = some y) : Below w.heap.size w W := h.1
theorem k1_call (h : Below w.heap.size w W ∧ g < W.heap.size ∧ W.cell? ⟨g, 0, none⟩ = some x ∧ W.cell? ⟨g, 1, none⟩ = some y) (hb : Below W.heap.size W w') : Below w.heap.size w w' ∧ g < w'.heap.size ∧ w'.cell? ⟨g, 0, none⟩ = some x ∧ w'.cell? ⟨g, 1, none⟩ = some y := by
  obtain ⟨h0, h1, h2, h3⟩ := h
  exact ⟨h0.trans (hb.mono h0.size), Nat.lt_of_lt_of_le h1 hb.size, (hb.cell (p := ⟨g, 0, none⟩) h1).trans h2, (hb.cell (p := ⟨g, 1, none⟩) h1).trans h3⟩
end
theorem resized_any (A : Option Addr) (a : List Int) (c n : Nat) (s : Bool) (w : World) (h1 : 0 < a.length) (ha : a.length ≤ 4096) (hn : n ≤ 4096) (hA : RQ w A a) :
    Calls Tryd.prog 36 #[.agg #[.slice A a.length c, .bool s], .int .i64 n] w (MkQ (rsz ⟨a, s⟩ n) w) := by
  have HA := hide hA
  have HX := hide (rsz_wdw ⟨a, s⟩ n)
  clear hA
  go_enter Tryd.func36, Tryd.ntmps36
  go_wp2_with fail
  go_region_held3 (fun w' => Below w.heap.size w w' ∧ w.heap.size < w'.heap.size ∧ w'.cell? ⟨w.heap.size, 0, none⟩ = some (.slice A a.length c) ∧ w'.cell? ⟨w.heap.size, 1, none⟩ = some (.bool s))
    (first
      | exact ⟨by (repeat (first | exact Below.refl _ _ | assumption | refine Below.setCell ?_ (by first | (simp; done) | omega | (simp; omega)) _ | refine Below.alloc ?_ (by first | (simp; done) | omega | (simp; omega)) _ | refine below_drewN ?_ _ | refine Below.drew ?_)), by simp, by simp, by simp⟩
      | exact k1_call (by assumption) hb)
    (first
      | (go_at_call 63; (with_reducible refine (extension_any A a c s w _ h1 ha (HA.out.below (k1_bel (by assumption)))).mono ?_); rintro e wz ⟨rfl, hb⟩; have hz9 := hb.size; (try simp at hz9))
      | (go_at_call 34; (with_reducible refine (window_any A a c n 0 _ _ ha hn (by omega) (by omega) (HA.out.below (k1_bel (by assumption)))).mono ?_); rintro e wz ⟨A2, c2, rfl, hc1, hc2, ho, hb⟩))
  go_wp2
  go_ret
  rw [← HX.out]
  exact ⟨A2, c2, rfl, hc1, hc2, ho.base (by omega), k1_bel (by assumption)⟩
end
section
open Go.RowKit
set_option maxRecDepth 100000
set_option linter.unusedSimpArgs false
set_option linter.unusedVariables false
/-- Two rows of the call's own are two. -/
def Sep (P Q : Option Addr) : Prop := ∀ g h, P = some ⟨g, 0, none⟩ → Q = some ⟨h, 0, none⟩ → g ≠ h
/-- What balance answers. -/
def RetB (a b : Vc) (w : World) (e : Ending) (w' : World) : Prop :=
  ∃ p P c q Q d, Hid (p = blA a b) ∧ Hid (q = blB a b) ∧ e = .returned (.tuple #[.slice P p.length c, .slice Q q.length d, .bool (sg a b)]) ∧ Hid (p.length ≤ c ∧ c ≤ maxLen) ∧ Hid (q.length ≤ d ∧ d ≤ maxLen) ∧ Hid (OwQ w.heap.size w' P p) ∧ Hid (OwQ w.heap.size w' Q q) ∧ Hid (Sep P Q) ∧ Below w.heap.size w w'
theorem RG.lower {B0 B1 B2 : Nat} {w : World} {A : Option Addr} {l : List Int} (h : RG B0 B1 w A l) (h2 : B2 ≤ B1) : RG B0 B2 w A l := fun hn => by
  obtain ⟨ad, e, hl, hg, hc⟩ := h hn
  exact ⟨ad, e, hl, by omega, hc⟩
set_option maxHeartbeats 2000000 in
theorem balance_any (A B : Option Addr) (a b : List Int) (c d : Nat) (s t : Bool) (w : World) (ha : a.length ≤ 4096) (hb : b.length ≤ 4096) (hca : Hid (a.length ≤ c ∧ c ≤ maxLen)) (hcb : Hid (b.length ≤ d ∧ d ≤ maxLen)) (hA : RQ w A a) (hB : RQ w B b) (ya : By a) (yb : By b) :
    Calls Tryd.prog 79 #[.agg #[.slice A a.length c, .bool s], .agg #[.slice B b.length d, .bool t]] w (RetB ⟨a, s⟩ ⟨b, t⟩ w) := by
  have HA := hide hA
  have HBB := hide hB
  have LA := hide ha
  have LB := hide hb
  clear hA hB ha hb
  go_enter Tryd.func79, Tryd.ntmps79
  go_wp2_with fail
  obtain ⟨W1, hW1⟩ : ∃ x, x = ((w.alloc (Obj.cells #[Value.slice A a.length c, Value.bool s] 24)).alloc (Obj.cells #[Value.slice B b.length d, Value.bool t] 24)) := ⟨_, rfl⟩
  rw [← hW1]
  have hBW1 : Below w.heap.size w W1 := by rw [hW1]; exact (by (repeat (first | with_reducible exact Below.refl _ _ | with_reducible assumption | with_reducible refine Below.setCell ?_ (by first | (simp; done) | omega | (simp; omega)) _ | with_reducible refine Below.alloc ?_ (by first | (simp; done) | omega | (simp; omega)) _ | with_reducible refine below_drewN ?_ _ | with_reducible refine Below.drew ?_)))
  have qW1_0 : W1.cell? ⟨w.heap.size, 0, none⟩ = some (Value.slice A a.length c) := by rw [hW1]; simp [go_sem]
  have fW1_0 : W1.frozen? ⟨w.heap.size, 0, none⟩ = false := by rw [hW1]; simp [go_sem]
  have qW1_1 : W1.cell? ⟨w.heap.size, 1, none⟩ = some (Value.bool s) := by rw [hW1]; simp [go_sem]
  have fW1_1 : W1.frozen? ⟨w.heap.size, 1, none⟩ = false := by rw [hW1]; simp [go_sem]
  have qW1_2 : W1.cell? ⟨w.heap.size + 1, 0, none⟩ = some (Value.slice B b.length d) := by rw [hW1]; simp [go_sem]
  have fW1_2 : W1.frozen? ⟨w.heap.size + 1, 0, none⟩ = false := by rw [hW1]; simp [go_sem]
  have qW1_3 : W1.cell? ⟨w.heap.size + 1, 1, none⟩ = some (Value.bool t) := by rw [hW1]; simp [go_sem]
  have fW1_3 : W1.frozen? ⟨w.heap.size + 1, 1, none⟩ = false := by rw [hW1]; simp [go_sem]
  have zW1_0 : w.heap.size < W1.heap.size := by rw [hW1]; first | (simp; done) | (simp; omega)
  have zW1_1 : w.heap.size + 1 < W1.heap.size := by rw [hW1]; first | (simp; done) | (simp; omega)
  clear hW1
  refine region_anyT (S := fun wS => Below W1.heap.size W1 wS) (n := 4) (by kernel_rfl) (Below.refl _ _).drew (fun hS inv => ?_)
  refine anyT_take (i := 0) (oi := _) (v := Value.agg #[Value.slice A a.length c, Value.bool s]) rfl (by kernel_rfl) (by kernel_rfl) (by kernel_rfl) (by decide) (by decide) (by kernel_rfl) (by kernel_rfl) inv (fun _ _ _ h => h) (Or.inl ⟨by kernel_rfl, ?_⟩) hS (fun inv => ?_)
  · intro wz hSw
    have hk0 := (hSw : Below _ _ _).cell (p := ⟨w.heap.size, 0, none⟩) (by first | assumption | (simp; done) | omega | (simp; omega)); have hk1 := (hSw : Below _ _ _).cell (p := ⟨w.heap.size, 1, none⟩) (by first | assumption | (simp; done) | omega | (simp; omega)); go_simp
  (try simp only [Act.put, List.getElem_toArray, List.getElem_cons_zero, List.getElem_cons_succ, List.setIfInBounds_toArray, List.set_cons_zero, List.set_cons_succ])
  refine anyT_take (i := 2) (oi := _) (v := Value.agg #[Value.slice B b.length d, Value.bool t]) rfl (by kernel_rfl) (by kernel_rfl) (by kernel_rfl) (by decide) (by decide) (by kernel_rfl) (by kernel_rfl) inv (fun _ _ _ h => h) (Or.inl ⟨by kernel_rfl, ?_⟩) hS (fun inv => ?_)
  · intro wz hSw
    have hk0 := (hSw : Below _ _ _).cell (p := ⟨w.heap.size + 1, 0, none⟩) (by first | assumption | (simp; done) | omega | (simp; omega)); have hk1 := (hSw : Below _ _ _).cell (p := ⟨w.heap.size + 1, 1, none⟩) (by first | assumption | (simp; done) | omega | (simp; omega)); go_simp
  (try simp only [Act.put, List.getElem_toArray, List.getElem_cons_zero, List.getElem_cons_succ, List.setIfInBounds_toArray, List.set_cons_zero, List.set_cons_succ])
  refine anyT_ready (rs := [1]) (by kernel_rfl) (by simp) ?_
  refine ReadyT.head (o := _) rfl (by decide) (by kernel_rfl) inv (fun K hK => ?_) ReadyT.nil
  go_simp
  refine (counted_any A a c s w _ LA.out hca HA.out (by (repeat (first | with_reducible exact Below.refl _ _ | with_reducible assumption | with_reducible refine Below.setCell ?_ (by first | (simp; done) | omega | (simp; omega)) _ | with_reducible refine Below.alloc ?_ (by first | (simp; done) | omega | (simp; omega)) _ | with_reducible refine below_drewN ?_ _ | with_reducible refine Below.drew ?_)))).mono ?_
  rintro e D1 ⟨l1, s1, A1, c1, E1, rfl, C1, O1, hb⟩
  go_wp2_with fail
  refine hK.out _ _ ?_ (fun hS inv => ?_)
  · exact (hS : Below W1.heap.size W1 _).trans (hb.mono (Below.size hS))
  clear hK K
  (try simp only [Act.put, List.getElem_toArray, List.getElem_cons_zero, List.getElem_cons_succ, List.setIfInBounds_toArray, List.set_cons_zero, List.set_cons_succ])
  have hBD1 : Below w.heap.size w D1 := Below.trans (by (repeat (first | with_reducible exact Below.refl _ _ | with_reducible assumption | with_reducible refine Below.setCell ?_ (by first | (simp; done) | omega | (simp; omega)) _ | with_reducible refine Below.alloc ?_ (by first | (simp; done) | omega | (simp; omega)) _ | with_reducible refine below_drewN ?_ _ | with_reducible refine Below.drew ?_))) (hb.mono (by first | omega | (simp; omega)))
  have hzD1 : W1.heap.size ≤ D1.heap.size := hb.size
  clear hb
  refine anyT_ready (rs := [3]) (by kernel_rfl) (by simp) ?_
  refine ReadyT.head (o := _) rfl (by decide) (by kernel_rfl) inv (fun K hK => ?_) ReadyT.nil
  go_simp
  refine (counted_any B b d t w _ LB.out hcb HBB.out (by (repeat (first | with_reducible exact Below.refl _ _ | with_reducible assumption | with_reducible refine Below.setCell ?_ (by first | (simp; done) | omega | (simp; omega)) _ | with_reducible refine Below.alloc ?_ (by first | (simp; done) | omega | (simp; omega)) _ | with_reducible refine below_drewN ?_ _ | with_reducible refine Below.drew ?_)))).mono ?_
  rintro e D2 ⟨l2, s2, A2, c2, E2, rfl, C2, O2, hb⟩
  go_wp2_with fail
  refine hK.out _ _ ?_ (fun hS inv => ?_)
  · exact (hS : Below W1.heap.size W1 _).trans (hb.mono (Below.size hS))
  clear hK K
  (try simp only [Act.put, List.getElem_toArray, List.getElem_cons_zero, List.getElem_cons_succ, List.setIfInBounds_toArray, List.set_cons_zero, List.set_cons_succ])
  have hBD2 : Below w.heap.size w D2 := Below.trans (by (repeat (first | with_reducible exact Below.refl _ _ | with_reducible assumption | with_reducible refine Below.setCell ?_ (by first | (simp; done) | omega | (simp; omega)) _ | with_reducible refine Below.alloc ?_ (by first | (simp; done) | omega | (simp; omega)) _ | with_reducible refine below_drewN ?_ _ | with_reducible refine Below.drew ?_))) (hb.mono (by first | omega | (simp; omega)))
  have hzD2 : D1.heap.size ≤ D2.heap.size := hb.size
  replace O1 := hide (O1.out.kept hb)
  obtain ⟨kcD, kfD⟩ := bcell (hS : Below W1.heap.size W1 D2)
  clear hb
  refine anyT_ready (rs := [4]) (by kernel_rfl) (by simp) ?_
  refine ReadyT.tail (o := _) rfl (by decide) (fun K hK => ?_)
  go_simp
  refine hK.out _ _ ?_
  clear hK K
  (try simp only [Act.put, List.getElem_toArray, List.getElem_cons_zero, List.getElem_cons_succ, List.setIfInBounds_toArray, List.set_cons_zero, List.set_cons_succ])
  refine anyT_ready (rs := [5]) (by kernel_rfl) (by simp) ?_
  refine ReadyT.tail (o := _) rfl (by decide) (fun K hK => ?_)
  go_simp
  refine hK.out _ _ ?_
  clear hK K
  (try simp only [Act.put, List.getElem_toArray, List.getElem_cons_zero, List.getElem_cons_succ, List.setIfInBounds_toArray, List.set_cons_zero, List.set_cons_succ])
  refine anyT_done (by kernel_rfl) ?_ _
  go_wp2_with fail
  · have hsg : sg ⟨a, s⟩ ⟨b, t⟩ = s2 := by unfold sg; rw [← E1.out, ← E2.out]; simp [*]
    have hwd : wd ⟨a, s⟩ ⟨b, t⟩ = l2.length := by unfold wd; rw [← E1.out, ← E2.out]; show max l1.length l2.length = _; omega
    have L1 : 0 < l1.length ∧ l1.length ≤ 128 := by have h := cnt_gd (v := ⟨a, s⟩) ya; rw [← E1.out] at h; exact ⟨h.pos, h.le⟩
    have L2 : 0 < l2.length ∧ l2.length ≤ 128 := by have h := cnt_gd (v := ⟨b, t⟩) yb; rw [← E2.out] at h; exact ⟨h.pos, h.le⟩
    have X1 := hide (show rsz ⟨l1, s2⟩ l2.length = blA ⟨a, s⟩ ⟨b, t⟩ by unfold blA; rw [hsg, hwd, ← E1.out])
    have X2 := hide (show rsz ⟨l2, s2⟩ l2.length = blB ⟨a, s⟩ ⟨b, t⟩ by unfold blB; rw [hsg, hwd, ← E2.out])
    have HSG := hide hsg
    clear hsg hwd
    replace O1 := hide (O1.out)
    have P1 : RG w.heap.size W1.heap.size D2 A1 l1 := O1.out
    have P2 : RG w.heap.size W1.heap.size D2 A2 l2 := RG.lower O2.out (by omega)
    obtain ⟨V, hV⟩ : ∃ x, x = ((((((D2.setCell ⟨w.heap.size, 0, none⟩ (Value.slice A1 l1.length c1)).setCell ⟨w.heap.size, 1, none⟩ (Value.bool true)).setCell ⟨w.heap.size + 1, 0, none⟩ (Value.slice A2 l2.length c2)).setCell ⟨w.heap.size + 1, 1, none⟩ (Value.bool s2)).setCell ⟨w.heap.size, 1, none⟩ (Value.bool s2)).setCell ⟨w.heap.size + 1, 1, none⟩ (Value.bool s2)) := ⟨_, rfl⟩
    rw [← hV]
    have Q1 := hide (show RG w.heap.size W1.heap.size V A1 l1 by rw [hV]; (repeat (first | with_reducible exact P1 | with_reducible refine RG.setc ?_ (by simp) (by simp; omega) _)))
    have Q2 := hide (show RG w.heap.size W1.heap.size V A2 l2 by rw [hV]; (repeat (first | with_reducible exact P2 | with_reducible refine RG.setc ?_ (by simp) (by simp; omega) _)))
    have hBV : Below w.heap.size w V := by rw [hV]; exact (by (repeat (first | with_reducible exact Below.refl _ _ | with_reducible assumption | with_reducible refine Below.setCell ?_ (by first | (simp; done) | omega | (simp; omega)) _ | with_reducible refine Below.alloc ?_ (by first | (simp; done) | omega | (simp; omega)) _ | with_reducible refine below_drewN ?_ _ | with_reducible refine Below.drew ?_)))
    have q0 : V.cell? ⟨w.heap.size, 0, none⟩ = some (Value.slice A1 l1.length c1) := by rw [hV]; (repeat (first | with_reducible refine cset_eq' ?_ | with_reducible refine cset_ne (by simp) ?_ | with_reducible refine cset_ex ?_ | exact ⟨_, (kcD _ _ zW1_0).trans (by assumption)⟩ | exact ⟨_, (kcD _ _ zW1_1).trans (by assumption)⟩))
    have q1 : V.cell? ⟨w.heap.size, 1, none⟩ = some (Value.bool s2) := by rw [hV]; (repeat (first | with_reducible refine cset_eq' ?_ | with_reducible refine cset_ne (by simp) ?_ | with_reducible refine cset_ex ?_ | exact ⟨_, (kcD _ _ zW1_0).trans (by assumption)⟩ | exact ⟨_, (kcD _ _ zW1_1).trans (by assumption)⟩))
    have q2 : V.cell? ⟨w.heap.size + 1, 0, none⟩ = some (Value.slice A2 l2.length c2) := by rw [hV]; (repeat (first | with_reducible refine cset_eq' ?_ | with_reducible refine cset_ne (by simp) ?_ | with_reducible refine cset_ex ?_ | exact ⟨_, (kcD _ _ zW1_0).trans (by assumption)⟩ | exact ⟨_, (kcD _ _ zW1_1).trans (by assumption)⟩))
    have q3 : V.cell? ⟨w.heap.size + 1, 1, none⟩ = some (Value.bool s2) := by rw [hV]; (repeat (first | with_reducible refine cset_eq' ?_ | with_reducible refine cset_ne (by simp) ?_ | with_reducible refine cset_ex ?_ | exact ⟨_, (kcD _ _ zW1_0).trans (by assumption)⟩ | exact ⟨_, (kcD _ _ zW1_1).trans (by assumption)⟩))
    have z0 : w.heap.size < V.heap.size := by rw [hV]; simp; omega
    have z1 : w.heap.size + 1 < V.heap.size := by rw [hV]; simp; omega
    clear hV P1 P2 kcD kfD
    refine region_anyT (S := fun wS => Below V.heap.size V wS) (n := 9) (by kernel_rfl) (Below.refl _ _).drew (fun hS inv => ?_)
    refine anyT_take (i := 0) (oi := _) (v := Value.agg #[Value.slice A1 l1.length c1, Value.bool s2]) rfl (by kernel_rfl) (by kernel_rfl) (by kernel_rfl) (by decide) (by decide) (by kernel_rfl) (by kernel_rfl) inv (fun _ _ _ h => h) (Or.inl ⟨by kernel_rfl, ?_⟩) hS (fun inv => ?_)
    · intro wz hSw
      have hk0 := (hSw : Below _ _ _).cell (p := ⟨w.heap.size, 0, none⟩) (by first | assumption | (simp; done) | omega | (simp; omega)); have hk1 := (hSw : Below _ _ _).cell (p := ⟨w.heap.size, 1, none⟩) (by first | assumption | (simp; done) | omega | (simp; omega)); go_simp
    (try simp only [Act.put, List.getElem_toArray, List.getElem_cons_zero, List.getElem_cons_succ, List.setIfInBounds_toArray, List.set_cons_zero, List.set_cons_succ])
    refine anyT_take (i := 1) (oi := _) (v := Value.int IntKind.i64 ↑l2.length) rfl (by kernel_rfl) (by kernel_rfl) (by kernel_rfl) (by decide) (by decide) (by kernel_rfl) (by kernel_rfl) inv (fun _ _ _ h => h) (Or.inl ⟨by kernel_rfl, ?_⟩) hS (fun inv => ?_)
    · intro wz hSw
      first | kernel_rfl | go_simp
    (try simp only [Act.put, List.getElem_toArray, List.getElem_cons_zero, List.getElem_cons_succ, List.setIfInBounds_toArray, List.set_cons_zero, List.set_cons_succ])
    refine anyT_take (i := 3) (oi := _) (v := Value.agg #[Value.slice A2 l2.length c2, Value.bool s2]) rfl (by kernel_rfl) (by kernel_rfl) (by kernel_rfl) (by decide) (by decide) (by kernel_rfl) (by kernel_rfl) inv (fun _ _ _ h => h) (Or.inl ⟨by kernel_rfl, ?_⟩) hS (fun inv => ?_)
    · intro wz hSw
      have hk0 := (hSw : Below _ _ _).cell (p := ⟨w.heap.size + 1, 0, none⟩) (by first | assumption | (simp; done) | omega | (simp; omega)); have hk1 := (hSw : Below _ _ _).cell (p := ⟨w.heap.size + 1, 1, none⟩) (by first | assumption | (simp; done) | omega | (simp; omega)); go_simp
    (try simp only [Act.put, List.getElem_toArray, List.getElem_cons_zero, List.getElem_cons_succ, List.setIfInBounds_toArray, List.set_cons_zero, List.set_cons_succ])
    refine anyT_take (i := 4) (oi := _) (v := Value.int IntKind.i64 ↑l2.length) rfl (by kernel_rfl) (by kernel_rfl) (by kernel_rfl) (by decide) (by decide) (by kernel_rfl) (by kernel_rfl) inv (fun _ _ _ h => h) (Or.inl ⟨by kernel_rfl, ?_⟩) hS (fun inv => ?_)
    · intro wz hSw
      first | kernel_rfl | go_simp
    (try simp only [Act.put, List.getElem_toArray, List.getElem_cons_zero, List.getElem_cons_succ, List.setIfInBounds_toArray, List.set_cons_zero, List.set_cons_succ])
    refine anyT_take (i := 6) (oi := _) (v := Value.bool s2) rfl (by kernel_rfl) (by kernel_rfl) (by kernel_rfl) (by decide) (by decide) (by kernel_rfl) (by kernel_rfl) inv (fun _ _ _ h => h) (Or.inl ⟨by kernel_rfl, ?_⟩) hS (fun inv => ?_)
    · intro wz hSw
      first | kernel_rfl | go_simp
    (try simp only [Act.put, List.getElem_toArray, List.getElem_cons_zero, List.getElem_cons_succ, List.setIfInBounds_toArray, List.set_cons_zero, List.set_cons_succ])
    refine anyT_ready (rs := [2]) (by kernel_rfl) (by simp) ?_
    refine ReadyT.head (o := _) rfl (by decide) (by kernel_rfl) inv (fun K hK => ?_) ReadyT.nil
    go_simp
    refine (resized_any A1 l1 c1 l2.length s2 _ L1.1 (by omega) (by omega) (Q1.out.drew.rd)).mono ?_
    rintro e G1 ⟨P1, d1, rfl, e1, g1, o1, hb⟩
    go_wp2_with fail
    refine hK.out _ _ ?_ (fun hS inv => ?_)
    · exact (hS : Below V.heap.size V _).trans (hb.mono (Below.size hS))
    clear hK K
    (try simp only [Act.put, List.getElem_toArray, List.getElem_cons_zero, List.getElem_cons_succ, List.setIfInBounds_toArray, List.set_cons_zero, List.set_cons_succ])
    have hBG1 : Below w.heap.size w G1 := Below.trans (by (repeat (first | with_reducible exact Below.refl _ _ | with_reducible assumption | with_reducible refine Below.setCell ?_ (by first | (simp; done) | omega | (simp; omega)) _ | with_reducible refine Below.alloc ?_ (by first | (simp; done) | omega | (simp; omega)) _ | with_reducible refine below_drewN ?_ _ | with_reducible refine Below.drew ?_))) (hb.mono (by first | omega | (simp; omega)))
    have hzG1 : V.heap.size ≤ G1.heap.size := hb.size
    replace Q2 := hide (Q2.out.drew.kept hb)
    clear hb
    refine anyT_ready (rs := [5]) (by kernel_rfl) (by simp) ?_
    refine ReadyT.head (o := _) rfl (by decide) (by kernel_rfl) inv (fun K hK => ?_) ReadyT.nil
    go_simp
    refine (resized_any A2 l2 c2 l2.length s2 _ L2.1 (by omega) (by omega) (Q2.out.rd)).mono ?_
    rintro e G2 ⟨P2, d2, rfl, e2, g2, o2, hb⟩
    go_wp2_with fail
    refine hK.out _ _ ?_ (fun hS inv => ?_)
    · exact (hS : Below V.heap.size V _).trans (hb.mono (Below.size hS))
    clear hK K
    (try simp only [Act.put, List.getElem_toArray, List.getElem_cons_zero, List.getElem_cons_succ, List.setIfInBounds_toArray, List.set_cons_zero, List.set_cons_succ])
    have hBG2 : Below w.heap.size w G2 := Below.trans (by (repeat (first | with_reducible exact Below.refl _ _ | with_reducible assumption | with_reducible refine Below.setCell ?_ (by first | (simp; done) | omega | (simp; omega)) _ | with_reducible refine Below.alloc ?_ (by first | (simp; done) | omega | (simp; omega)) _ | with_reducible refine below_drewN ?_ _ | with_reducible refine Below.drew ?_))) (hb.mono (by first | omega | (simp; omega)))
    have hzG2 : G1.heap.size ≤ G2.heap.size := hb.size
    have HS : Hid (Sep P1 P2) := hide fun g h e1 e2 => by
      obtain ⟨g1, x1, _, x2⟩ := o1.lt (by rw [rsz_length]; omega)
      obtain ⟨g2, y1, y2, _⟩ := o2.lt (by rw [rsz_length]; omega)
      have := x1.symm.trans e1; have := y1.symm.trans e2; simp only [Option.some.injEq, Addr.mk.injEq] at *; omega
    replace o1 := hide (OwQ.kept o1 hb)
    clear hb
    refine anyT_take (i := 7) (oi := _) (v := Value.slice P1 (rsz ⟨l1, s2⟩ l2.length).length d1) rfl (by kernel_rfl) (by kernel_rfl) (by kernel_rfl) (by decide) (by decide) (by kernel_rfl) (by kernel_rfl) inv (fun _ _ _ h => h) (Or.inl ⟨by kernel_rfl, ?_⟩) hS (fun inv => ?_)
    · intro wz hSw
      first | kernel_rfl | go_simp
    (try simp only [Act.put, List.getElem_toArray, List.getElem_cons_zero, List.getElem_cons_succ, List.setIfInBounds_toArray, List.set_cons_zero, List.set_cons_succ])
    refine anyT_take (i := 8) (oi := _) (v := Value.slice P2 (rsz ⟨l2, s2⟩ l2.length).length d2) rfl (by kernel_rfl) (by kernel_rfl) (by kernel_rfl) (by decide) (by decide) (by kernel_rfl) (by kernel_rfl) inv (fun _ _ _ h => h) (Or.inl ⟨by kernel_rfl, ?_⟩) hS (fun inv => ?_)
    · intro wz hSw
      first | kernel_rfl | go_simp
    (try simp only [Act.put, List.getElem_toArray, List.getElem_cons_zero, List.getElem_cons_succ, List.setIfInBounds_toArray, List.set_cons_zero, List.set_cons_succ])
    refine anyT_ready (rs := [9]) (by kernel_rfl) (by simp) ?_
    refine ReadyT.tail (o := _) rfl (by decide) (fun K hK => ?_)
    go_simp
    refine hK.out _ _ ?_
    clear hK K
    (try simp only [Act.put, List.getElem_toArray, List.getElem_cons_zero, List.getElem_cons_succ, List.setIfInBounds_toArray, List.set_cons_zero, List.set_cons_succ])
    refine anyT_done (by kernel_rfl) ?_ _
    go_wp2
    go_ret3
    exact ⟨rsz ⟨l1, s2⟩ l2.length, P1, d1, rsz ⟨l2, s2⟩ l2.length, P2, d2, X1, X2, by rw [HSG.out]; rfl, hide ⟨e1, g1⟩, hide ⟨e2, g2⟩, hide (o1.out.base (Nat.le_of_lt (show w.heap.size < V.drew.heap.size from z0))), hide (o2.base (by omega)), HS, hBG2⟩
  · have hsg : sg ⟨a, s⟩ ⟨b, t⟩ = s2 := by unfold sg; rw [← E1.out, ← E2.out]; simp [*]
    have hwd : wd ⟨a, s⟩ ⟨b, t⟩ = l1.length := by unfold wd; rw [← E1.out, ← E2.out]; show max l1.length l2.length = _; omega
    have L1 : 0 < l1.length ∧ l1.length ≤ 128 := by have h := cnt_gd (v := ⟨a, s⟩) ya; rw [← E1.out] at h; exact ⟨h.pos, h.le⟩
    have L2 : 0 < l2.length ∧ l2.length ≤ 128 := by have h := cnt_gd (v := ⟨b, t⟩) yb; rw [← E2.out] at h; exact ⟨h.pos, h.le⟩
    have X1 := hide (show rsz ⟨l1, s2⟩ l1.length = blA ⟨a, s⟩ ⟨b, t⟩ by unfold blA; rw [hsg, hwd, ← E1.out])
    have X2 := hide (show rsz ⟨l2, s2⟩ l1.length = blB ⟨a, s⟩ ⟨b, t⟩ by unfold blB; rw [hsg, hwd, ← E2.out])
    have HSG := hide hsg
    clear hsg hwd
    replace O1 := hide (O1.out)
    have P1 : RG w.heap.size W1.heap.size D2 A1 l1 := O1.out
    have P2 : RG w.heap.size W1.heap.size D2 A2 l2 := RG.lower O2.out (by omega)
    obtain ⟨V, hV⟩ : ∃ x, x = ((((((D2.setCell ⟨w.heap.size, 0, none⟩ (Value.slice A1 l1.length c1)).setCell ⟨w.heap.size, 1, none⟩ (Value.bool true)).setCell ⟨w.heap.size + 1, 0, none⟩ (Value.slice A2 l2.length c2)).setCell ⟨w.heap.size + 1, 1, none⟩ (Value.bool s2)).setCell ⟨w.heap.size, 1, none⟩ (Value.bool s2)).setCell ⟨w.heap.size + 1, 1, none⟩ (Value.bool s2)) := ⟨_, rfl⟩
    rw [← hV]
    have Q1 := hide (show RG w.heap.size W1.heap.size V A1 l1 by rw [hV]; (repeat (first | with_reducible exact P1 | with_reducible refine RG.setc ?_ (by simp) (by simp; omega) _)))
    have Q2 := hide (show RG w.heap.size W1.heap.size V A2 l2 by rw [hV]; (repeat (first | with_reducible exact P2 | with_reducible refine RG.setc ?_ (by simp) (by simp; omega) _)))
    have hBV : Below w.heap.size w V := by rw [hV]; exact (by (repeat (first | with_reducible exact Below.refl _ _ | with_reducible assumption | with_reducible refine Below.setCell ?_ (by first | (simp; done) | omega | (simp; omega)) _ | with_reducible refine Below.alloc ?_ (by first | (simp; done) | omega | (simp; omega)) _ | with_reducible refine below_drewN ?_ _ | with_reducible refine Below.drew ?_)))
    have q0 : V.cell? ⟨w.heap.size, 0, none⟩ = some (Value.slice A1 l1.length c1) := by rw [hV]; (repeat (first | with_reducible refine cset_eq' ?_ | with_reducible refine cset_ne (by simp) ?_ | with_reducible refine cset_ex ?_ | exact ⟨_, (kcD _ _ zW1_0).trans (by assumption)⟩ | exact ⟨_, (kcD _ _ zW1_1).trans (by assumption)⟩))
    have q1 : V.cell? ⟨w.heap.size, 1, none⟩ = some (Value.bool s2) := by rw [hV]; (repeat (first | with_reducible refine cset_eq' ?_ | with_reducible refine cset_ne (by simp) ?_ | with_reducible refine cset_ex ?_ | exact ⟨_, (kcD _ _ zW1_0).trans (by assumption)⟩ | exact ⟨_, (kcD _ _ zW1_1).trans (by assumption)⟩))
    have q2 : V.cell? ⟨w.heap.size + 1, 0, none⟩ = some (Value.slice A2 l2.length c2) := by rw [hV]; (repeat (first | with_reducible refine cset_eq' ?_ | with_reducible refine cset_ne (by simp) ?_ | with_reducible refine cset_ex ?_ | exact ⟨_, (kcD _ _ zW1_0).trans (by assumption)⟩ | exact ⟨_, (kcD _ _ zW1_1).trans (by assumption)⟩))
    have q3 : V.cell? ⟨w.heap.size + 1, 1, none⟩ = some (Value.bool s2) := by rw [hV]; (repeat (first | with_reducible refine cset_eq' ?_ | with_reducible refine cset_ne (by simp) ?_ | with_reducible refine cset_ex ?_ | exact ⟨_, (kcD _ _ zW1_0).trans (by assumption)⟩ | exact ⟨_, (kcD _ _ zW1_1).trans (by assumption)⟩))
    have z0 : w.heap.size < V.heap.size := by rw [hV]; simp; omega
    have z1 : w.heap.size + 1 < V.heap.size := by rw [hV]; simp; omega
    clear hV P1 P2 kcD kfD
    refine region_anyT (S := fun wS => Below V.heap.size V wS) (n := 9) (by kernel_rfl) (Below.refl _ _).drew (fun hS inv => ?_)
    refine anyT_take (i := 0) (oi := _) (v := Value.agg #[Value.slice A1 l1.length c1, Value.bool s2]) rfl (by kernel_rfl) (by kernel_rfl) (by kernel_rfl) (by decide) (by decide) (by kernel_rfl) (by kernel_rfl) inv (fun _ _ _ h => h) (Or.inl ⟨by kernel_rfl, ?_⟩) hS (fun inv => ?_)
    · intro wz hSw
      have hk0 := (hSw : Below _ _ _).cell (p := ⟨w.heap.size, 0, none⟩) (by first | assumption | (simp; done) | omega | (simp; omega)); have hk1 := (hSw : Below _ _ _).cell (p := ⟨w.heap.size, 1, none⟩) (by first | assumption | (simp; done) | omega | (simp; omega)); go_simp
    (try simp only [Act.put, List.getElem_toArray, List.getElem_cons_zero, List.getElem_cons_succ, List.setIfInBounds_toArray, List.set_cons_zero, List.set_cons_succ])
    refine anyT_take (i := 1) (oi := _) (v := Value.int IntKind.i64 ↑l1.length) rfl (by kernel_rfl) (by kernel_rfl) (by kernel_rfl) (by decide) (by decide) (by kernel_rfl) (by kernel_rfl) inv (fun _ _ _ h => h) (Or.inl ⟨by kernel_rfl, ?_⟩) hS (fun inv => ?_)
    · intro wz hSw
      first | kernel_rfl | go_simp
    (try simp only [Act.put, List.getElem_toArray, List.getElem_cons_zero, List.getElem_cons_succ, List.setIfInBounds_toArray, List.set_cons_zero, List.set_cons_succ])
    refine anyT_take (i := 3) (oi := _) (v := Value.agg #[Value.slice A2 l2.length c2, Value.bool s2]) rfl (by kernel_rfl) (by kernel_rfl) (by kernel_rfl) (by decide) (by decide) (by kernel_rfl) (by kernel_rfl) inv (fun _ _ _ h => h) (Or.inl ⟨by kernel_rfl, ?_⟩) hS (fun inv => ?_)
    · intro wz hSw
      have hk0 := (hSw : Below _ _ _).cell (p := ⟨w.heap.size + 1, 0, none⟩) (by first | assumption | (simp; done) | omega | (simp; omega)); have hk1 := (hSw : Below _ _ _).cell (p := ⟨w.heap.size + 1, 1, none⟩) (by first | assumption | (simp; done) | omega | (simp; omega)); go_simp
    (try simp only [Act.put, List.getElem_toArray, List.getElem_cons_zero, List.getElem_cons_succ, List.setIfInBounds_toArray, List.set_cons_zero, List.set_cons_succ])
    refine anyT_take (i := 4) (oi := _) (v := Value.int IntKind.i64 ↑l1.length) rfl (by kernel_rfl) (by kernel_rfl) (by kernel_rfl) (by decide) (by decide) (by kernel_rfl) (by kernel_rfl) inv (fun _ _ _ h => h) (Or.inl ⟨by kernel_rfl, ?_⟩) hS (fun inv => ?_)
    · intro wz hSw
      first | kernel_rfl | go_simp
    (try simp only [Act.put, List.getElem_toArray, List.getElem_cons_zero, List.getElem_cons_succ, List.setIfInBounds_toArray, List.set_cons_zero, List.set_cons_succ])
    refine anyT_take (i := 6) (oi := _) (v := Value.bool s2) rfl (by kernel_rfl) (by kernel_rfl) (by kernel_rfl) (by decide) (by decide) (by kernel_rfl) (by kernel_rfl) inv (fun _ _ _ h => h) (Or.inl ⟨by kernel_rfl, ?_⟩) hS (fun inv => ?_)
    · intro wz hSw
      first | kernel_rfl | go_simp
    (try simp only [Act.put, List.getElem_toArray, List.getElem_cons_zero, List.getElem_cons_succ, List.setIfInBounds_toArray, List.set_cons_zero, List.set_cons_succ])
    refine anyT_ready (rs := [2]) (by kernel_rfl) (by simp) ?_
    refine ReadyT.head (o := _) rfl (by decide) (by kernel_rfl) inv (fun K hK => ?_) ReadyT.nil
    go_simp
    refine (resized_any A1 l1 c1 l1.length s2 _ L1.1 (by omega) (by omega) (Q1.out.drew.rd)).mono ?_
    rintro e G1 ⟨P1, d1, rfl, e1, g1, o1, hb⟩
    go_wp2_with fail
    refine hK.out _ _ ?_ (fun hS inv => ?_)
    · exact (hS : Below V.heap.size V _).trans (hb.mono (Below.size hS))
    clear hK K
    (try simp only [Act.put, List.getElem_toArray, List.getElem_cons_zero, List.getElem_cons_succ, List.setIfInBounds_toArray, List.set_cons_zero, List.set_cons_succ])
    have hBG1 : Below w.heap.size w G1 := Below.trans (by (repeat (first | with_reducible exact Below.refl _ _ | with_reducible assumption | with_reducible refine Below.setCell ?_ (by first | (simp; done) | omega | (simp; omega)) _ | with_reducible refine Below.alloc ?_ (by first | (simp; done) | omega | (simp; omega)) _ | with_reducible refine below_drewN ?_ _ | with_reducible refine Below.drew ?_))) (hb.mono (by first | omega | (simp; omega)))
    have hzG1 : V.heap.size ≤ G1.heap.size := hb.size
    replace Q2 := hide (Q2.out.drew.kept hb)
    clear hb
    refine anyT_ready (rs := [5]) (by kernel_rfl) (by simp) ?_
    refine ReadyT.head (o := _) rfl (by decide) (by kernel_rfl) inv (fun K hK => ?_) ReadyT.nil
    go_simp
    refine (resized_any A2 l2 c2 l1.length s2 _ L2.1 (by omega) (by omega) (Q2.out.rd)).mono ?_
    rintro e G2 ⟨P2, d2, rfl, e2, g2, o2, hb⟩
    go_wp2_with fail
    refine hK.out _ _ ?_ (fun hS inv => ?_)
    · exact (hS : Below V.heap.size V _).trans (hb.mono (Below.size hS))
    clear hK K
    (try simp only [Act.put, List.getElem_toArray, List.getElem_cons_zero, List.getElem_cons_succ, List.setIfInBounds_toArray, List.set_cons_zero, List.set_cons_succ])
    have hBG2 : Below w.heap.size w G2 := Below.trans (by (repeat (first | with_reducible exact Below.refl _ _ | with_reducible assumption | with_reducible refine Below.setCell ?_ (by first | (simp; done) | omega | (simp; omega)) _ | with_reducible refine Below.alloc ?_ (by first | (simp; done) | omega | (simp; omega)) _ | with_reducible refine below_drewN ?_ _ | with_reducible refine Below.drew ?_))) (hb.mono (by first | omega | (simp; omega)))
    have hzG2 : G1.heap.size ≤ G2.heap.size := hb.size
    have HS : Hid (Sep P1 P2) := hide fun g h e1 e2 => by
      obtain ⟨g1, x1, _, x2⟩ := o1.lt (by rw [rsz_length]; omega)
      obtain ⟨g2, y1, y2, _⟩ := o2.lt (by rw [rsz_length]; omega)
      have := x1.symm.trans e1; have := y1.symm.trans e2; simp only [Option.some.injEq, Addr.mk.injEq] at *; omega
    replace o1 := hide (OwQ.kept o1 hb)
    clear hb
    refine anyT_take (i := 7) (oi := _) (v := Value.slice P1 (rsz ⟨l1, s2⟩ l1.length).length d1) rfl (by kernel_rfl) (by kernel_rfl) (by kernel_rfl) (by decide) (by decide) (by kernel_rfl) (by kernel_rfl) inv (fun _ _ _ h => h) (Or.inl ⟨by kernel_rfl, ?_⟩) hS (fun inv => ?_)
    · intro wz hSw
      first | kernel_rfl | go_simp
    (try simp only [Act.put, List.getElem_toArray, List.getElem_cons_zero, List.getElem_cons_succ, List.setIfInBounds_toArray, List.set_cons_zero, List.set_cons_succ])
    refine anyT_take (i := 8) (oi := _) (v := Value.slice P2 (rsz ⟨l2, s2⟩ l1.length).length d2) rfl (by kernel_rfl) (by kernel_rfl) (by kernel_rfl) (by decide) (by decide) (by kernel_rfl) (by kernel_rfl) inv (fun _ _ _ h => h) (Or.inl ⟨by kernel_rfl, ?_⟩) hS (fun inv => ?_)
    · intro wz hSw
      first | kernel_rfl | go_simp
    (try simp only [Act.put, List.getElem_toArray, List.getElem_cons_zero, List.getElem_cons_succ, List.setIfInBounds_toArray, List.set_cons_zero, List.set_cons_succ])
    refine anyT_ready (rs := [9]) (by kernel_rfl) (by simp) ?_
    refine ReadyT.tail (o := _) rfl (by decide) (fun K hK => ?_)
    go_simp
    refine hK.out _ _ ?_
    clear hK K
    (try simp only [Act.put, List.getElem_toArray, List.getElem_cons_zero, List.getElem_cons_succ, List.setIfInBounds_toArray, List.set_cons_zero, List.set_cons_succ])
    refine anyT_done (by kernel_rfl) ?_ _
    go_wp2
    go_ret3
    exact ⟨rsz ⟨l1, s2⟩ l1.length, P1, d1, rsz ⟨l2, s2⟩ l1.length, P2, d2, X1, X2, by rw [HSG.out]; rfl, hide ⟨e1, g1⟩, hide ⟨e2, g2⟩, hide (o1.out.base (Nat.le_of_lt (show w.heap.size < V.drew.heap.size from z0))), hide (o2.base (by omega)), HS, hBG2⟩
  · have hsg : sg ⟨a, s⟩ ⟨b, t⟩ = false := by unfold sg; rw [← E1.out, ← E2.out]; simp [*]
    have hwd : wd ⟨a, s⟩ ⟨b, t⟩ = l2.length := by unfold wd; rw [← E1.out, ← E2.out]; show max l1.length l2.length = _; omega
    have L1 : 0 < l1.length ∧ l1.length ≤ 128 := by have h := cnt_gd (v := ⟨a, s⟩) ya; rw [← E1.out] at h; exact ⟨h.pos, h.le⟩
    have L2 : 0 < l2.length ∧ l2.length ≤ 128 := by have h := cnt_gd (v := ⟨b, t⟩) yb; rw [← E2.out] at h; exact ⟨h.pos, h.le⟩
    have X1 := hide (show rsz ⟨l1, false⟩ l2.length = blA ⟨a, s⟩ ⟨b, t⟩ by unfold blA; rw [hsg, hwd, ← E1.out])
    have X2 := hide (show rsz ⟨l2, false⟩ l2.length = blB ⟨a, s⟩ ⟨b, t⟩ by unfold blB; rw [hsg, hwd, ← E2.out])
    have HSG := hide hsg
    clear hsg hwd
    replace O1 := hide (O1.out)
    have P1 : RG w.heap.size W1.heap.size D2 A1 l1 := O1.out
    have P2 : RG w.heap.size W1.heap.size D2 A2 l2 := RG.lower O2.out (by omega)
    obtain ⟨V, hV⟩ : ∃ x, x = ((((((D2.setCell ⟨w.heap.size, 0, none⟩ (Value.slice A1 l1.length c1)).setCell ⟨w.heap.size, 1, none⟩ (Value.bool false)).setCell ⟨w.heap.size + 1, 0, none⟩ (Value.slice A2 l2.length c2)).setCell ⟨w.heap.size + 1, 1, none⟩ (Value.bool s2)).setCell ⟨w.heap.size, 1, none⟩ (Value.bool false)).setCell ⟨w.heap.size + 1, 1, none⟩ (Value.bool false)) := ⟨_, rfl⟩
    rw [← hV]
    have Q1 := hide (show RG w.heap.size W1.heap.size V A1 l1 by rw [hV]; (repeat (first | with_reducible exact P1 | with_reducible refine RG.setc ?_ (by simp) (by simp; omega) _)))
    have Q2 := hide (show RG w.heap.size W1.heap.size V A2 l2 by rw [hV]; (repeat (first | with_reducible exact P2 | with_reducible refine RG.setc ?_ (by simp) (by simp; omega) _)))
    have hBV : Below w.heap.size w V := by rw [hV]; exact (by (repeat (first | with_reducible exact Below.refl _ _ | with_reducible assumption | with_reducible refine Below.setCell ?_ (by first | (simp; done) | omega | (simp; omega)) _ | with_reducible refine Below.alloc ?_ (by first | (simp; done) | omega | (simp; omega)) _ | with_reducible refine below_drewN ?_ _ | with_reducible refine Below.drew ?_)))
    have q0 : V.cell? ⟨w.heap.size, 0, none⟩ = some (Value.slice A1 l1.length c1) := by rw [hV]; (repeat (first | with_reducible refine cset_eq' ?_ | with_reducible refine cset_ne (by simp) ?_ | with_reducible refine cset_ex ?_ | exact ⟨_, (kcD _ _ zW1_0).trans (by assumption)⟩ | exact ⟨_, (kcD _ _ zW1_1).trans (by assumption)⟩))
    have q1 : V.cell? ⟨w.heap.size, 1, none⟩ = some (Value.bool false) := by rw [hV]; (repeat (first | with_reducible refine cset_eq' ?_ | with_reducible refine cset_ne (by simp) ?_ | with_reducible refine cset_ex ?_ | exact ⟨_, (kcD _ _ zW1_0).trans (by assumption)⟩ | exact ⟨_, (kcD _ _ zW1_1).trans (by assumption)⟩))
    have q2 : V.cell? ⟨w.heap.size + 1, 0, none⟩ = some (Value.slice A2 l2.length c2) := by rw [hV]; (repeat (first | with_reducible refine cset_eq' ?_ | with_reducible refine cset_ne (by simp) ?_ | with_reducible refine cset_ex ?_ | exact ⟨_, (kcD _ _ zW1_0).trans (by assumption)⟩ | exact ⟨_, (kcD _ _ zW1_1).trans (by assumption)⟩))
    have q3 : V.cell? ⟨w.heap.size + 1, 1, none⟩ = some (Value.bool false) := by rw [hV]; (repeat (first | with_reducible refine cset_eq' ?_ | with_reducible refine cset_ne (by simp) ?_ | with_reducible refine cset_ex ?_ | exact ⟨_, (kcD _ _ zW1_0).trans (by assumption)⟩ | exact ⟨_, (kcD _ _ zW1_1).trans (by assumption)⟩))
    have z0 : w.heap.size < V.heap.size := by rw [hV]; simp; omega
    have z1 : w.heap.size + 1 < V.heap.size := by rw [hV]; simp; omega
    clear hV P1 P2 kcD kfD
    refine region_anyT (S := fun wS => Below V.heap.size V wS) (n := 9) (by kernel_rfl) (Below.refl _ _).drew (fun hS inv => ?_)
    refine anyT_take (i := 0) (oi := _) (v := Value.agg #[Value.slice A1 l1.length c1, Value.bool false]) rfl (by kernel_rfl) (by kernel_rfl) (by kernel_rfl) (by decide) (by decide) (by kernel_rfl) (by kernel_rfl) inv (fun _ _ _ h => h) (Or.inl ⟨by kernel_rfl, ?_⟩) hS (fun inv => ?_)
    · intro wz hSw
      have hk0 := (hSw : Below _ _ _).cell (p := ⟨w.heap.size, 0, none⟩) (by first | assumption | (simp; done) | omega | (simp; omega)); have hk1 := (hSw : Below _ _ _).cell (p := ⟨w.heap.size, 1, none⟩) (by first | assumption | (simp; done) | omega | (simp; omega)); go_simp
    (try simp only [Act.put, List.getElem_toArray, List.getElem_cons_zero, List.getElem_cons_succ, List.setIfInBounds_toArray, List.set_cons_zero, List.set_cons_succ])
    refine anyT_take (i := 1) (oi := _) (v := Value.int IntKind.i64 ↑l2.length) rfl (by kernel_rfl) (by kernel_rfl) (by kernel_rfl) (by decide) (by decide) (by kernel_rfl) (by kernel_rfl) inv (fun _ _ _ h => h) (Or.inl ⟨by kernel_rfl, ?_⟩) hS (fun inv => ?_)
    · intro wz hSw
      first | kernel_rfl | go_simp
    (try simp only [Act.put, List.getElem_toArray, List.getElem_cons_zero, List.getElem_cons_succ, List.setIfInBounds_toArray, List.set_cons_zero, List.set_cons_succ])
    refine anyT_take (i := 3) (oi := _) (v := Value.agg #[Value.slice A2 l2.length c2, Value.bool false]) rfl (by kernel_rfl) (by kernel_rfl) (by kernel_rfl) (by decide) (by decide) (by kernel_rfl) (by kernel_rfl) inv (fun _ _ _ h => h) (Or.inl ⟨by kernel_rfl, ?_⟩) hS (fun inv => ?_)
    · intro wz hSw
      have hk0 := (hSw : Below _ _ _).cell (p := ⟨w.heap.size + 1, 0, none⟩) (by first | assumption | (simp; done) | omega | (simp; omega)); have hk1 := (hSw : Below _ _ _).cell (p := ⟨w.heap.size + 1, 1, none⟩) (by first | assumption | (simp; done) | omega | (simp; omega)); go_simp
    (try simp only [Act.put, List.getElem_toArray, List.getElem_cons_zero, List.getElem_cons_succ, List.setIfInBounds_toArray, List.set_cons_zero, List.set_cons_succ])
    refine anyT_take (i := 4) (oi := _) (v := Value.int IntKind.i64 ↑l2.length) rfl (by kernel_rfl) (by kernel_rfl) (by kernel_rfl) (by decide) (by decide) (by kernel_rfl) (by kernel_rfl) inv (fun _ _ _ h => h) (Or.inl ⟨by kernel_rfl, ?_⟩) hS (fun inv => ?_)
    · intro wz hSw
      first | kernel_rfl | go_simp
    (try simp only [Act.put, List.getElem_toArray, List.getElem_cons_zero, List.getElem_cons_succ, List.setIfInBounds_toArray, List.set_cons_zero, List.set_cons_succ])
    refine anyT_take (i := 6) (oi := _) (v := Value.bool false) rfl (by kernel_rfl) (by kernel_rfl) (by kernel_rfl) (by decide) (by decide) (by kernel_rfl) (by kernel_rfl) inv (fun _ _ _ h => h) (Or.inl ⟨by kernel_rfl, ?_⟩) hS (fun inv => ?_)
    · intro wz hSw
      first | kernel_rfl | go_simp
    (try simp only [Act.put, List.getElem_toArray, List.getElem_cons_zero, List.getElem_cons_succ, List.setIfInBounds_toArray, List.set_cons_zero, List.set_cons_succ])
    refine anyT_ready (rs := [2]) (by kernel_rfl) (by simp) ?_
    refine ReadyT.head (o := _) rfl (by decide) (by kernel_rfl) inv (fun K hK => ?_) ReadyT.nil
    go_simp
    refine (resized_any A1 l1 c1 l2.length false _ L1.1 (by omega) (by omega) (Q1.out.drew.rd)).mono ?_
    rintro e G1 ⟨P1, d1, rfl, e1, g1, o1, hb⟩
    go_wp2_with fail
    refine hK.out _ _ ?_ (fun hS inv => ?_)
    · exact (hS : Below V.heap.size V _).trans (hb.mono (Below.size hS))
    clear hK K
    (try simp only [Act.put, List.getElem_toArray, List.getElem_cons_zero, List.getElem_cons_succ, List.setIfInBounds_toArray, List.set_cons_zero, List.set_cons_succ])
    have hBG1 : Below w.heap.size w G1 := Below.trans (by (repeat (first | with_reducible exact Below.refl _ _ | with_reducible assumption | with_reducible refine Below.setCell ?_ (by first | (simp; done) | omega | (simp; omega)) _ | with_reducible refine Below.alloc ?_ (by first | (simp; done) | omega | (simp; omega)) _ | with_reducible refine below_drewN ?_ _ | with_reducible refine Below.drew ?_))) (hb.mono (by first | omega | (simp; omega)))
    have hzG1 : V.heap.size ≤ G1.heap.size := hb.size
    replace Q2 := hide (Q2.out.drew.kept hb)
    clear hb
    refine anyT_ready (rs := [5]) (by kernel_rfl) (by simp) ?_
    refine ReadyT.head (o := _) rfl (by decide) (by kernel_rfl) inv (fun K hK => ?_) ReadyT.nil
    go_simp
    refine (resized_any A2 l2 c2 l2.length false _ L2.1 (by omega) (by omega) (Q2.out.rd)).mono ?_
    rintro e G2 ⟨P2, d2, rfl, e2, g2, o2, hb⟩
    go_wp2_with fail
    refine hK.out _ _ ?_ (fun hS inv => ?_)
    · exact (hS : Below V.heap.size V _).trans (hb.mono (Below.size hS))
    clear hK K
    (try simp only [Act.put, List.getElem_toArray, List.getElem_cons_zero, List.getElem_cons_succ, List.setIfInBounds_toArray, List.set_cons_zero, List.set_cons_succ])
    have hBG2 : Below w.heap.size w G2 := Below.trans (by (repeat (first | with_reducible exact Below.refl _ _ | with_reducible assumption | with_reducible refine Below.setCell ?_ (by first | (simp; done) | omega | (simp; omega)) _ | with_reducible refine Below.alloc ?_ (by first | (simp; done) | omega | (simp; omega)) _ | with_reducible refine below_drewN ?_ _ | with_reducible refine Below.drew ?_))) (hb.mono (by first | omega | (simp; omega)))
    have hzG2 : G1.heap.size ≤ G2.heap.size := hb.size
    have HS : Hid (Sep P1 P2) := hide fun g h e1 e2 => by
      obtain ⟨g1, x1, _, x2⟩ := o1.lt (by rw [rsz_length]; omega)
      obtain ⟨g2, y1, y2, _⟩ := o2.lt (by rw [rsz_length]; omega)
      have := x1.symm.trans e1; have := y1.symm.trans e2; simp only [Option.some.injEq, Addr.mk.injEq] at *; omega
    replace o1 := hide (OwQ.kept o1 hb)
    clear hb
    refine anyT_take (i := 7) (oi := _) (v := Value.slice P1 (rsz ⟨l1, false⟩ l2.length).length d1) rfl (by kernel_rfl) (by kernel_rfl) (by kernel_rfl) (by decide) (by decide) (by kernel_rfl) (by kernel_rfl) inv (fun _ _ _ h => h) (Or.inl ⟨by kernel_rfl, ?_⟩) hS (fun inv => ?_)
    · intro wz hSw
      first | kernel_rfl | go_simp
    (try simp only [Act.put, List.getElem_toArray, List.getElem_cons_zero, List.getElem_cons_succ, List.setIfInBounds_toArray, List.set_cons_zero, List.set_cons_succ])
    refine anyT_take (i := 8) (oi := _) (v := Value.slice P2 (rsz ⟨l2, false⟩ l2.length).length d2) rfl (by kernel_rfl) (by kernel_rfl) (by kernel_rfl) (by decide) (by decide) (by kernel_rfl) (by kernel_rfl) inv (fun _ _ _ h => h) (Or.inl ⟨by kernel_rfl, ?_⟩) hS (fun inv => ?_)
    · intro wz hSw
      first | kernel_rfl | go_simp
    (try simp only [Act.put, List.getElem_toArray, List.getElem_cons_zero, List.getElem_cons_succ, List.setIfInBounds_toArray, List.set_cons_zero, List.set_cons_succ])
    refine anyT_ready (rs := [9]) (by kernel_rfl) (by simp) ?_
    refine ReadyT.tail (o := _) rfl (by decide) (fun K hK => ?_)
    go_simp
    refine hK.out _ _ ?_
    clear hK K
    (try simp only [Act.put, List.getElem_toArray, List.getElem_cons_zero, List.getElem_cons_succ, List.setIfInBounds_toArray, List.set_cons_zero, List.set_cons_succ])
    refine anyT_done (by kernel_rfl) ?_ _
    go_wp2
    go_ret3
    exact ⟨rsz ⟨l1, false⟩ l2.length, P1, d1, rsz ⟨l2, false⟩ l2.length, P2, d2, X1, X2, by rw [HSG.out]; rfl, hide ⟨e1, g1⟩, hide ⟨e2, g2⟩, hide (o1.out.base (Nat.le_of_lt (show w.heap.size < V.drew.heap.size from z0))), hide (o2.base (by omega)), HS, hBG2⟩
  · have hsg : sg ⟨a, s⟩ ⟨b, t⟩ = false := by unfold sg; rw [← E1.out, ← E2.out]; simp [*]
    have hwd : wd ⟨a, s⟩ ⟨b, t⟩ = l1.length := by unfold wd; rw [← E1.out, ← E2.out]; show max l1.length l2.length = _; omega
    have L1 : 0 < l1.length ∧ l1.length ≤ 128 := by have h := cnt_gd (v := ⟨a, s⟩) ya; rw [← E1.out] at h; exact ⟨h.pos, h.le⟩
    have L2 : 0 < l2.length ∧ l2.length ≤ 128 := by have h := cnt_gd (v := ⟨b, t⟩) yb; rw [← E2.out] at h; exact ⟨h.pos, h.le⟩
    have X1 := hide (show rsz ⟨l1, false⟩ l1.length = blA ⟨a, s⟩ ⟨b, t⟩ by unfold blA; rw [hsg, hwd, ← E1.out])
    have X2 := hide (show rsz ⟨l2, false⟩ l1.length = blB ⟨a, s⟩ ⟨b, t⟩ by unfold blB; rw [hsg, hwd, ← E2.out])
    have HSG := hide hsg
    clear hsg hwd
    replace O1 := hide (O1.out)
    have P1 : RG w.heap.size W1.heap.size D2 A1 l1 := O1.out
    have P2 : RG w.heap.size W1.heap.size D2 A2 l2 := RG.lower O2.out (by omega)
    obtain ⟨V, hV⟩ : ∃ x, x = ((((((D2.setCell ⟨w.heap.size, 0, none⟩ (Value.slice A1 l1.length c1)).setCell ⟨w.heap.size, 1, none⟩ (Value.bool false)).setCell ⟨w.heap.size + 1, 0, none⟩ (Value.slice A2 l2.length c2)).setCell ⟨w.heap.size + 1, 1, none⟩ (Value.bool s2)).setCell ⟨w.heap.size, 1, none⟩ (Value.bool false)).setCell ⟨w.heap.size + 1, 1, none⟩ (Value.bool false)) := ⟨_, rfl⟩
    rw [← hV]
    have Q1 := hide (show RG w.heap.size W1.heap.size V A1 l1 by rw [hV]; (repeat (first | with_reducible exact P1 | with_reducible refine RG.setc ?_ (by simp) (by simp; omega) _)))
    have Q2 := hide (show RG w.heap.size W1.heap.size V A2 l2 by rw [hV]; (repeat (first | with_reducible exact P2 | with_reducible refine RG.setc ?_ (by simp) (by simp; omega) _)))
    have hBV : Below w.heap.size w V := by rw [hV]; exact (by (repeat (first | with_reducible exact Below.refl _ _ | with_reducible assumption | with_reducible refine Below.setCell ?_ (by first | (simp; done) | omega | (simp; omega)) _ | with_reducible refine Below.alloc ?_ (by first | (simp; done) | omega | (simp; omega)) _ | with_reducible refine below_drewN ?_ _ | with_reducible refine Below.drew ?_)))
    have q0 : V.cell? ⟨w.heap.size, 0, none⟩ = some (Value.slice A1 l1.length c1) := by rw [hV]; (repeat (first | with_reducible refine cset_eq' ?_ | with_reducible refine cset_ne (by simp) ?_ | with_reducible refine cset_ex ?_ | exact ⟨_, (kcD _ _ zW1_0).trans (by assumption)⟩ | exact ⟨_, (kcD _ _ zW1_1).trans (by assumption)⟩))
    have q1 : V.cell? ⟨w.heap.size, 1, none⟩ = some (Value.bool false) := by rw [hV]; (repeat (first | with_reducible refine cset_eq' ?_ | with_reducible refine cset_ne (by simp) ?_ | with_reducible refine cset_ex ?_ | exact ⟨_, (kcD _ _ zW1_0).trans (by assumption)⟩ | exact ⟨_, (kcD _ _ zW1_1).trans (by assumption)⟩))
    have q2 : V.cell? ⟨w.heap.size + 1, 0, none⟩ = some (Value.slice A2 l2.length c2) := by rw [hV]; (repeat (first | with_reducible refine cset_eq' ?_ | with_reducible refine cset_ne (by simp) ?_ | with_reducible refine cset_ex ?_ | exact ⟨_, (kcD _ _ zW1_0).trans (by assumption)⟩ | exact ⟨_, (kcD _ _ zW1_1).trans (by assumption)⟩))
    have q3 : V.cell? ⟨w.heap.size + 1, 1, none⟩ = some (Value.bool false) := by rw [hV]; (repeat (first | with_reducible refine cset_eq' ?_ | with_reducible refine cset_ne (by simp) ?_ | with_reducible refine cset_ex ?_ | exact ⟨_, (kcD _ _ zW1_0).trans (by assumption)⟩ | exact ⟨_, (kcD _ _ zW1_1).trans (by assumption)⟩))
    have z0 : w.heap.size < V.heap.size := by rw [hV]; simp; omega
    have z1 : w.heap.size + 1 < V.heap.size := by rw [hV]; simp; omega
    clear hV P1 P2 kcD kfD
    refine region_anyT (S := fun wS => Below V.heap.size V wS) (n := 9) (by kernel_rfl) (Below.refl _ _).drew (fun hS inv => ?_)
    refine anyT_take (i := 0) (oi := _) (v := Value.agg #[Value.slice A1 l1.length c1, Value.bool false]) rfl (by kernel_rfl) (by kernel_rfl) (by kernel_rfl) (by decide) (by decide) (by kernel_rfl) (by kernel_rfl) inv (fun _ _ _ h => h) (Or.inl ⟨by kernel_rfl, ?_⟩) hS (fun inv => ?_)
    · intro wz hSw
      have hk0 := (hSw : Below _ _ _).cell (p := ⟨w.heap.size, 0, none⟩) (by first | assumption | (simp; done) | omega | (simp; omega)); have hk1 := (hSw : Below _ _ _).cell (p := ⟨w.heap.size, 1, none⟩) (by first | assumption | (simp; done) | omega | (simp; omega)); go_simp
    (try simp only [Act.put, List.getElem_toArray, List.getElem_cons_zero, List.getElem_cons_succ, List.setIfInBounds_toArray, List.set_cons_zero, List.set_cons_succ])
    refine anyT_take (i := 1) (oi := _) (v := Value.int IntKind.i64 ↑l1.length) rfl (by kernel_rfl) (by kernel_rfl) (by kernel_rfl) (by decide) (by decide) (by kernel_rfl) (by kernel_rfl) inv (fun _ _ _ h => h) (Or.inl ⟨by kernel_rfl, ?_⟩) hS (fun inv => ?_)
    · intro wz hSw
      first | kernel_rfl | go_simp
    (try simp only [Act.put, List.getElem_toArray, List.getElem_cons_zero, List.getElem_cons_succ, List.setIfInBounds_toArray, List.set_cons_zero, List.set_cons_succ])
    refine anyT_take (i := 3) (oi := _) (v := Value.agg #[Value.slice A2 l2.length c2, Value.bool false]) rfl (by kernel_rfl) (by kernel_rfl) (by kernel_rfl) (by decide) (by decide) (by kernel_rfl) (by kernel_rfl) inv (fun _ _ _ h => h) (Or.inl ⟨by kernel_rfl, ?_⟩) hS (fun inv => ?_)
    · intro wz hSw
      have hk0 := (hSw : Below _ _ _).cell (p := ⟨w.heap.size + 1, 0, none⟩) (by first | assumption | (simp; done) | omega | (simp; omega)); have hk1 := (hSw : Below _ _ _).cell (p := ⟨w.heap.size + 1, 1, none⟩) (by first | assumption | (simp; done) | omega | (simp; omega)); go_simp
    (try simp only [Act.put, List.getElem_toArray, List.getElem_cons_zero, List.getElem_cons_succ, List.setIfInBounds_toArray, List.set_cons_zero, List.set_cons_succ])
    refine anyT_take (i := 4) (oi := _) (v := Value.int IntKind.i64 ↑l1.length) rfl (by kernel_rfl) (by kernel_rfl) (by kernel_rfl) (by decide) (by decide) (by kernel_rfl) (by kernel_rfl) inv (fun _ _ _ h => h) (Or.inl ⟨by kernel_rfl, ?_⟩) hS (fun inv => ?_)
    · intro wz hSw
      first | kernel_rfl | go_simp
    (try simp only [Act.put, List.getElem_toArray, List.getElem_cons_zero, List.getElem_cons_succ, List.setIfInBounds_toArray, List.set_cons_zero, List.set_cons_succ])
    refine anyT_take (i := 6) (oi := _) (v := Value.bool false) rfl (by kernel_rfl) (by kernel_rfl) (by kernel_rfl) (by decide) (by decide) (by kernel_rfl) (by kernel_rfl) inv (fun _ _ _ h => h) (Or.inl ⟨by kernel_rfl, ?_⟩) hS (fun inv => ?_)
    · intro wz hSw
      first | kernel_rfl | go_simp
    (try simp only [Act.put, List.getElem_toArray, List.getElem_cons_zero, List.getElem_cons_succ, List.setIfInBounds_toArray, List.set_cons_zero, List.set_cons_succ])
    refine anyT_ready (rs := [2]) (by kernel_rfl) (by simp) ?_
    refine ReadyT.head (o := _) rfl (by decide) (by kernel_rfl) inv (fun K hK => ?_) ReadyT.nil
    go_simp
    refine (resized_any A1 l1 c1 l1.length false _ L1.1 (by omega) (by omega) (Q1.out.drew.rd)).mono ?_
    rintro e G1 ⟨P1, d1, rfl, e1, g1, o1, hb⟩
    go_wp2_with fail
    refine hK.out _ _ ?_ (fun hS inv => ?_)
    · exact (hS : Below V.heap.size V _).trans (hb.mono (Below.size hS))
    clear hK K
    (try simp only [Act.put, List.getElem_toArray, List.getElem_cons_zero, List.getElem_cons_succ, List.setIfInBounds_toArray, List.set_cons_zero, List.set_cons_succ])
    have hBG1 : Below w.heap.size w G1 := Below.trans (by (repeat (first | with_reducible exact Below.refl _ _ | with_reducible assumption | with_reducible refine Below.setCell ?_ (by first | (simp; done) | omega | (simp; omega)) _ | with_reducible refine Below.alloc ?_ (by first | (simp; done) | omega | (simp; omega)) _ | with_reducible refine below_drewN ?_ _ | with_reducible refine Below.drew ?_))) (hb.mono (by first | omega | (simp; omega)))
    have hzG1 : V.heap.size ≤ G1.heap.size := hb.size
    replace Q2 := hide (Q2.out.drew.kept hb)
    clear hb
    refine anyT_ready (rs := [5]) (by kernel_rfl) (by simp) ?_
    refine ReadyT.head (o := _) rfl (by decide) (by kernel_rfl) inv (fun K hK => ?_) ReadyT.nil
    go_simp
    refine (resized_any A2 l2 c2 l1.length false _ L2.1 (by omega) (by omega) (Q2.out.rd)).mono ?_
    rintro e G2 ⟨P2, d2, rfl, e2, g2, o2, hb⟩
    go_wp2_with fail
    refine hK.out _ _ ?_ (fun hS inv => ?_)
    · exact (hS : Below V.heap.size V _).trans (hb.mono (Below.size hS))
    clear hK K
    (try simp only [Act.put, List.getElem_toArray, List.getElem_cons_zero, List.getElem_cons_succ, List.setIfInBounds_toArray, List.set_cons_zero, List.set_cons_succ])
    have hBG2 : Below w.heap.size w G2 := Below.trans (by (repeat (first | with_reducible exact Below.refl _ _ | with_reducible assumption | with_reducible refine Below.setCell ?_ (by first | (simp; done) | omega | (simp; omega)) _ | with_reducible refine Below.alloc ?_ (by first | (simp; done) | omega | (simp; omega)) _ | with_reducible refine below_drewN ?_ _ | with_reducible refine Below.drew ?_))) (hb.mono (by first | omega | (simp; omega)))
    have hzG2 : G1.heap.size ≤ G2.heap.size := hb.size
    have HS : Hid (Sep P1 P2) := hide fun g h e1 e2 => by
      obtain ⟨g1, x1, _, x2⟩ := o1.lt (by rw [rsz_length]; omega)
      obtain ⟨g2, y1, y2, _⟩ := o2.lt (by rw [rsz_length]; omega)
      have := x1.symm.trans e1; have := y1.symm.trans e2; simp only [Option.some.injEq, Addr.mk.injEq] at *; omega
    replace o1 := hide (OwQ.kept o1 hb)
    clear hb
    refine anyT_take (i := 7) (oi := _) (v := Value.slice P1 (rsz ⟨l1, false⟩ l1.length).length d1) rfl (by kernel_rfl) (by kernel_rfl) (by kernel_rfl) (by decide) (by decide) (by kernel_rfl) (by kernel_rfl) inv (fun _ _ _ h => h) (Or.inl ⟨by kernel_rfl, ?_⟩) hS (fun inv => ?_)
    · intro wz hSw
      first | kernel_rfl | go_simp
    (try simp only [Act.put, List.getElem_toArray, List.getElem_cons_zero, List.getElem_cons_succ, List.setIfInBounds_toArray, List.set_cons_zero, List.set_cons_succ])
    refine anyT_take (i := 8) (oi := _) (v := Value.slice P2 (rsz ⟨l2, false⟩ l1.length).length d2) rfl (by kernel_rfl) (by kernel_rfl) (by kernel_rfl) (by decide) (by decide) (by kernel_rfl) (by kernel_rfl) inv (fun _ _ _ h => h) (Or.inl ⟨by kernel_rfl, ?_⟩) hS (fun inv => ?_)
    · intro wz hSw
      first | kernel_rfl | go_simp
    (try simp only [Act.put, List.getElem_toArray, List.getElem_cons_zero, List.getElem_cons_succ, List.setIfInBounds_toArray, List.set_cons_zero, List.set_cons_succ])
    refine anyT_ready (rs := [9]) (by kernel_rfl) (by simp) ?_
    refine ReadyT.tail (o := _) rfl (by decide) (fun K hK => ?_)
    go_simp
    refine hK.out _ _ ?_
    clear hK K
    (try simp only [Act.put, List.getElem_toArray, List.getElem_cons_zero, List.getElem_cons_succ, List.setIfInBounds_toArray, List.set_cons_zero, List.set_cons_succ])
    refine anyT_done (by kernel_rfl) ?_ _
    go_wp2
    go_ret3
    exact ⟨rsz ⟨l1, false⟩ l1.length, P1, d1, rsz ⟨l2, false⟩ l1.length, P2, d2, X1, X2, by rw [HSG.out]; rfl, hide ⟨e1, g1⟩, hide ⟨e2, g2⟩, hide (o1.out.base (Nat.le_of_lt (show w.heap.size < V.drew.heap.size from z0))), hide (o2.base (by omega)), HS, hBG2⟩
end
section
open Go.RowKit
set_option maxRecDepth 100000
set_option linter.unusedSimpArgs false
set_option linter.unusedVariables false
/-- The tables of package bit read as they are laid. -/
structure Tabs (w : World) : Prop where
  tn : Tab1 4 mNot w
  tb : Tab1 2 mBuf w
  ta : Tab2 1 mAnd w
  tO : Tab2 3 mOr w
  tx : Tab2 5 mXor w
  tg : Tab2 0 mAgree w
theorem Tab1.kept {g : Nat} {f : Int → Int} {w w' : World} (h : Tab1 g f w) (hb : Below w.heap.size w w') : Tab1 g f w' := fun a ha =>
  (hb.cell (p := ⟨g, (bst a).toNat, none⟩) (block_lt_of_cell (h a ha))).trans (h a ha)
theorem Tab2.kept {g : Nat} {f : Int → Int → Int} {w w' : World} (h : Tab2 g f w) (hb : Below w.heap.size w w') : Tab2 g f w' := fun a b ha hb' =>
  (hb.cell (p := ⟨g, (bst a).toNat * 4 + (bst b).toNat, none⟩) (block_lt_of_cell (h a b ha hb'))).trans (h a b ha hb')
theorem Tabs.kept {w w' : World} (h : Tabs w) (hb : Below w.heap.size w w') : Tabs w' := ⟨h.tn.kept hb, h.tb.kept hb, h.ta.kept hb, h.tO.kept hb, h.tx.kept hb, h.tg.kept hb⟩
theorem Tabs.drew {w : World} (h : Tabs w) : Tabs w.drew := h.kept ((Below.refl _ _).drew)
theorem Tabs.drewN {w : World} (h : Tabs w) (n : Nat) : Tabs (w.drewN n) := h.kept (below_drewN (Below.refl _ _) n)
/-- A function value on two bits. -/
structure OpF (N : Nat) (f : Int → Int → Int) : Prop where
  cf : Ent N
  ct : ∀ p q w, 0 ≤ p → 0 ≤ q → Tabs w → Calls Tryd.prog N #[.int .u8 p, .int .u8 q] w (Gives (.int .u8 (f p q)) w)
  bd : ∀ p q, 0 ≤ p ∧ p ≤ 3 → 0 ≤ q ∧ q ≤ 3 → 0 ≤ f p q ∧ f p q ≤ 3
theorem bd_of3 {x : Int} (h : x = 0 ∨ x = 1 ∨ x = 2) : 0 ≤ x ∧ x ≤ 3 := by omega
theorem opF_and : OpF 65 mAnd := ⟨Tryd.call65, fun p q w h1 h2 h => and_q p q w h1 h2 h.ta, fun p q _ _ => bd_of3 (mAnd_3 p q)⟩
theorem opF_or : OpF 78 mOr := ⟨Tryd.call78, fun p q w h1 h2 h => or_q p q w h1 h2 h.tO, fun p q _ _ => bd_of3 (mOr_3 p q)⟩
theorem opF_eq : OpF 82 mEq := ⟨Tryd.call82, fun p q w h1 h2 h => eq_q p q w h1 h2 h.tx h.tn, fun p q _ _ => bd_of3 (mEq_3 p q)⟩
theorem opF_not : OpF 80 (fun p _ => mNot p) := by
  refine ⟨Tryd.call80, fun p q w h1 h2 h => ?_, fun p q _ _ => bd_of3 (mNot_3 p)⟩
  have H := hide h
  clear h
  go_enter Tryd.func80, Tryd.ntmps80
  go_wp2_with (go_at_call 81; refine (not_q _ _ h1 H.out.tn).mono ?_; rintro e w' ⟨rfl, n, rfl⟩)
  go_ret
  exact ⟨rfl, _, rfl⟩
theorem opF_mux : OpF 41 (mMux 2) := by
  refine ⟨Tryd.call41, fun p q w h1 h2 h => ?_, fun p q hp _ => bd_of3 (mMux_3 2 p q hp.1)⟩
  have H := hide h
  clear h
  go_enter Tryd.func41, Tryd.ntmps41
  go_wp2_with (go_at_call 42; refine (mux_q 2 _ _ _ h1 h2 H.out.tb H.out.tg).mono ?_; rintro e w' ⟨rfl, n, rfl⟩)
  go_ret
  exact ⟨rfl, _, rfl⟩
theorem opF_first : OpF 44 (fun p _ => p) := by
  refine ⟨Tryd.call44, fun p q w h1 h2 h => ?_, fun p q hp _ => hp⟩
  go_enter Tryd.func44, Tryd.ntmps44
  go_wp2
  go_ret
  exact ⟨rfl, 0, rfl⟩
theorem opF_second : OpF 45 (fun _ q => q) := by
  refine ⟨Tryd.call45, fun p q w h1 h2 h => ?_, fun p q _ hq => hq⟩
  go_enter Tryd.func45, Tryd.ntmps45
  go_wp2
  go_ret
  exact ⟨rfl, 0, rfl⟩
/-- A row that is filled anew from its start on. -/
def Mix (k : Nat) (f g : Nat → Int) (j : Nat) : Int := if j < k then f j else g j
theorem Mix.step (k : Nat) (f g : Nat → Int) (j : Nat) : (if j = k then f k else Mix k f g j) = Mix (k + 1) f g j := by
  unfold Mix
  by_cases h : j = k
  · subst h; rw [if_pos rfl, if_pos (by omega)]
  · rw [if_neg h]
    by_cases h1 : j < k
    · rw [if_pos h1, if_pos (by omega)]
    · rw [if_neg h1, if_neg (by omega)]
theorem bcellB {B : Nat} {W w1 : World} (hb : Below B W w1) : (∀ b o, b < B → w1.cell? ⟨b, o, none⟩ = W.cell? ⟨b, o, none⟩) ∧ (∀ b o, b < B → w1.frozen? ⟨b, o, none⟩ = W.frozen? ⟨b, o, none⟩) :=
  ⟨fun b o h => hb.cell (p := ⟨b, o, none⟩) h, fun b o h => hb.frozen (p := ⟨b, o, none⟩) h⟩
/-- A round of bitwise: what lies below B is as it was in the world w1. -/
structure BwR (B : Nat) (w1 : World) (g h n k : Nat) (f : Nat → Int) (p q : List Int) (wr : World) : Prop where
  row : RowQ wr g n (Mix k f (qt p))
  oth : RowQ wr h n (qt q)
  bel : Below B w1 wr
theorem BwR.step {B : Nat} {w1 wr : World} {g h n k : Nat} {f : Nat → Int} {p q : List Int} (r : BwR B w1 g h n k f p q wr) (hg : B ≤ g) (hne : g ≠ h) (m : Nat) : BwR B w1 g h n (k + 1) f p q ((wr.drewN m).setCell ⟨g, k, none⟩ (.int .u8 (f k))) where
  row := ((r.row.drewN m).set_ k _).congr fun j _ => Mix.step k f (qt p) j
  oth := (r.oth.drewN m).far (by simpa using Ne.symm hne) _
  bel := (below_drewN r.bel m).setCell (by simpa using hg) _
set_option maxHeartbeats 2000000 in
theorem bitwise_any (N : Nat) (f : Int → Int → Int) (hop : OpF N f) (A B : Option Addr) (a b : List Int) (c d : Nat) (s t : Bool) (w : World) (ha : a.length ≤ 4096) (hb : b.length ≤ 4096) (hca : Hid (a.length ≤ c ∧ c ≤ maxLen)) (hcb : Hid (b.length ≤ d ∧ d ≤ maxLen)) (hA : RQ w A a) (hB : RQ w B b) (ya : By a) (yb : By b) (ht : Tabs w) :
    Calls Tryd.prog 46 #[.agg #[.slice A a.length c, .bool s], .agg #[.slice B b.length d, .bool t], .func (.func N) #[] #[]] w (RetC (· = btw f ⟨a, s⟩ ⟨b, t⟩) w) := by
  have hcf : ∀ args w, (callFunc N args).run Tryd.prog w = .ok (.enter N args) w := hop.cf
  have HO := hide hop
  have HT := hide ht
  have hwd := wd_bd (a := ⟨a, s⟩) (b := ⟨b, t⟩) ya yb
  have HGA := hide (gd_blA (a := ⟨a, s⟩) (b := ⟨b, t⟩) ya yb)
  have HGB := hide (gd_blB (a := ⟨a, s⟩) (b := ⟨b, t⟩) ya yb)
  have hbal := hide fun W (hW : Below w.heap.size w W) => balance_any A B a b c d s t W ha hb hca hcb (hA.below hW) (hB.below hW) ya yb
  clear hop hA hB ha hb ht
  obtain ⟨n, hn⟩ : ∃ n, n = wd ⟨a, s⟩ ⟨b, t⟩ := ⟨_, rfl⟩
  rw [← hn] at hwd
  have HN := hide hn
  obtain ⟨σ, hσ⟩ : ∃ σ, σ = sg ⟨a, s⟩ ⟨b, t⟩ := ⟨_, rfl⟩
  have HSG := hide hσ
  unfold RetB at hbal
  rw [← hσ] at hbal
  clear hn hσ
  go_enter Tryd.func46, Tryd.ntmps46
  go_wp2_with fail
  refine (hbal.out _ (by (repeat (first | with_reducible exact Below.refl _ _ | with_reducible assumption | with_reducible refine Below.setCell ?_ (by first | (simp; done) | omega | (simp; omega)) _ | with_reducible refine Below.alloc ?_ (by first | (simp; done) | omega | (simp; omega)) _ | with_reducible refine below_drewN ?_ _ | with_reducible refine Below.drew ?_)))).mono ?_
  rintro e w1 ⟨p, P, pc, q, Q, qc, Ep, Eq, rfl, Cp, Cq, Op, Oq, Hs, hb1⟩
  have lp : p.length = n := by rw [Ep.out, blA_length, HN.out]
  have lq : q.length = n := by rw [Eq.out, blB_length, HN.out]
  obtain ⟨g, rfl, hg, hgr⟩ := Op.out (by omega)
  obtain ⟨h, rfl, hh, hhr⟩ := Oq.out (by omega)
  have hne := Hs.out g h rfl rfl
  rw [lp] at hgr
  rw [lq] at hhr
  have hz1 := hb1.size
  simp at hz1
  replace hg : w.heap.size + 3 ≤ g := by simp at hg; omega
  replace hh : w.heap.size + 3 ≤ h := by simp at hh; omega
  obtain ⟨kc1, kf1⟩ := bcell hb1
  replace hb1 : Below w.heap.size w w1 := Below.trans (by (repeat (first | with_reducible exact Below.refl _ _ | with_reducible assumption | with_reducible refine Below.setCell ?_ (by first | (simp; done) | omega | (simp; omega)) _ | with_reducible refine Below.alloc ?_ (by first | (simp; done) | omega | (simp; omega)) _ | with_reducible refine below_drewN ?_ _ | with_reducible refine Below.drew ?_))) (hb1.mono (by simp; omega))
  have HR1 := hide (BwR.mk (k := 0) (f := fun j => f (qt p j) (qt q j)) (hgr.congr fun j _ => by simp [Mix]) hhr (Below.refl _ _) : BwR (w.heap.size + 3) w1 g h n 0 (fun j => f (qt p j) (qt q j)) p q w1)
  have C1 := hide lp
  have C2 := hide lq
  rw [lp, lq]
  clear hgr hhr lp lq Op Oq Hs
  go_wp2_with fail
  go_loopw [20] (fun i wr => ∃ k : Nat, k ≤ n ∧ i = .int .i64 k ∧ BwR (w.heap.size + 3) w1 g h n k (fun j => f (qt p j) (qt q j)) p q wr) (fun i _ => n - (intOf i).toNat)
  case atStart => exact ⟨0, Nat.zero_le _, rfl, HR1.out⟩
  case round =>
    clear HR1
    obtain ⟨k, hk, rfl, hR⟩ := hrel
    by_cases hlt : k < n
    · have hRH := hide hR
      have hc1 : wr.cell? ⟨g, k, none⟩ = some (.int .u8 (qt p k)) := by rw [hR.row.cell hlt]; simp [Mix]
      have hc2 : wr.cell? ⟨h, k, none⟩ = some (.int .u8 (qt q k)) := hR.oth.cell hlt
      have hl1 := hR.row.lt
      have hl2 := hR.oth.lt
      have hf := hR.row.free k
      have HTr := hide (HT.out.kept (hb1.trans (hR.bel.mono (by omega))))
      have b1 := (HGA.out.bd k)
      have b2 := (HGB.out.bd k)
      rw [← Ep.out] at b1
      rw [← Eq.out] at b2
      clear hR
      go_wp2_with fail
      refine region_anyT (S := fun wS => Below wr.heap.size wr wS) (n := 13) (by kernel_rfl) (Below.refl _ _).drew (fun hS inv => ?_)
      refine anyT_take (i := 0) (oi := _) (v := Value.slice (some ⟨g, 0, none⟩) n pc) rfl (by kernel_rfl) (by kernel_rfl) (by kernel_rfl) (by decide) (by decide) (by kernel_rfl) (by kernel_rfl) inv (fun _ _ _ h => h) (Or.inl ⟨by kernel_rfl, ?_⟩) hS (fun inv => ?_)
      · intro wz hSw
        first | kernel_rfl | go_simp
      (try simp only [Act.put, List.getElem_toArray, List.getElem_cons_zero, List.getElem_cons_succ, List.setIfInBounds_toArray, List.set_cons_zero, List.set_cons_succ])
      refine anyT_take (i := 1) (oi := _) (v := Value.int IntKind.i64 ↑k) rfl (by kernel_rfl) (by kernel_rfl) (by kernel_rfl) (by decide) (by decide) (by kernel_rfl) (by kernel_rfl) inv (fun _ _ _ h => h) (Or.inl ⟨by kernel_rfl, ?_⟩) hS (fun inv => ?_)
      · intro wz hSw
        first | kernel_rfl | go_simp
      (try simp only [Act.put, List.getElem_toArray, List.getElem_cons_zero, List.getElem_cons_succ, List.setIfInBounds_toArray, List.set_cons_zero, List.set_cons_succ])
      refine anyT_take (i := 2) (oi := _) (v := Value.func (Fn.func N) #[] #[]) rfl (by kernel_rfl) (by kernel_rfl) (by kernel_rfl) (by decide) (by decide) (by kernel_rfl) (by kernel_rfl) inv (fun _ _ _ h => h) (Or.inl ⟨by kernel_rfl, ?_⟩) hS (fun inv => ?_)
      · intro wz hSw
        first | kernel_rfl | go_simp
      (try simp only [Act.put, List.getElem_toArray, List.getElem_cons_zero, List.getElem_cons_succ, List.setIfInBounds_toArray, List.set_cons_zero, List.set_cons_succ])
      refine anyT_take (i := 3) (oi := _) (v := Value.slice (some ⟨g, 0, none⟩) n pc) rfl (by kernel_rfl) (by kernel_rfl) (by kernel_rfl) (by decide) (by decide) (by kernel_rfl) (by kernel_rfl) inv (fun _ _ _ h => h) (Or.inl ⟨by kernel_rfl, ?_⟩) hS (fun inv => ?_)
      · intro wz hSw
        first | kernel_rfl | go_simp
      (try simp only [Act.put, List.getElem_toArray, List.getElem_cons_zero, List.getElem_cons_succ, List.setIfInBounds_toArray, List.set_cons_zero, List.set_cons_succ])
      refine anyT_take (i := 4) (oi := _) (v := Value.int IntKind.i64 ↑k) rfl (by kernel_rfl) (by kernel_rfl) (by kernel_rfl) (by decide) (by decide) (by kernel_rfl) (by kernel_rfl) inv (fun _ _ _ h => h) (Or.inl ⟨by kernel_rfl, ?_⟩) hS (fun inv => ?_)
      · intro wz hSw
        first | kernel_rfl | go_simp
      (try simp only [Act.put, List.getElem_toArray, List.getElem_cons_zero, List.getElem_cons_succ, List.setIfInBounds_toArray, List.set_cons_zero, List.set_cons_succ])
      refine anyT_take (i := 5) (oi := _) (v := Value.pointer (some ⟨g, k, none⟩)) rfl (by kernel_rfl) (by kernel_rfl) (by kernel_rfl) (by decide) (by decide) (by kernel_rfl) (by kernel_rfl) inv (fun _ _ _ h => h) (Or.inl ⟨by kernel_rfl, ?_⟩) hS (fun inv => ?_)
      · intro wz hSw
        go_simp
      (try simp only [Act.put, List.getElem_toArray, List.getElem_cons_zero, List.getElem_cons_succ, List.setIfInBounds_toArray, List.set_cons_zero, List.set_cons_succ])
      refine anyT_take (i := 6) (oi := _) (v := Value.int IntKind.u8 (qt p k)) rfl (by kernel_rfl) (by kernel_rfl) (by kernel_rfl) (by decide) (by decide) (by kernel_rfl) (by kernel_rfl) inv (fun _ _ _ h => h) (Or.inl ⟨by kernel_rfl, ?_⟩) hS (fun inv => ?_)
      · intro wz hSw
        have hk0 := (hSw : Below _ _ _).cell (p := ⟨g, k, none⟩) (by first | assumption | (simp; done) | omega | (simp; omega)); go_simp
      (try simp only [Act.put, List.getElem_toArray, List.getElem_cons_zero, List.getElem_cons_succ, List.setIfInBounds_toArray, List.set_cons_zero, List.set_cons_succ])
      refine anyT_take (i := 7) (oi := _) (v := Value.slice (some ⟨h, 0, none⟩) n qc) rfl (by kernel_rfl) (by kernel_rfl) (by kernel_rfl) (by decide) (by decide) (by kernel_rfl) (by kernel_rfl) inv (fun _ _ _ h => h) (Or.inl ⟨by kernel_rfl, ?_⟩) hS (fun inv => ?_)
      · intro wz hSw
        first | kernel_rfl | go_simp
      (try simp only [Act.put, List.getElem_toArray, List.getElem_cons_zero, List.getElem_cons_succ, List.setIfInBounds_toArray, List.set_cons_zero, List.set_cons_succ])
      refine anyT_take (i := 8) (oi := _) (v := Value.int IntKind.i64 ↑k) rfl (by kernel_rfl) (by kernel_rfl) (by kernel_rfl) (by decide) (by decide) (by kernel_rfl) (by kernel_rfl) inv (fun _ _ _ h => h) (Or.inl ⟨by kernel_rfl, ?_⟩) hS (fun inv => ?_)
      · intro wz hSw
        first | kernel_rfl | go_simp
      (try simp only [Act.put, List.getElem_toArray, List.getElem_cons_zero, List.getElem_cons_succ, List.setIfInBounds_toArray, List.set_cons_zero, List.set_cons_succ])
      refine anyT_take (i := 9) (oi := _) (v := Value.pointer (some ⟨h, k, none⟩)) rfl (by kernel_rfl) (by kernel_rfl) (by kernel_rfl) (by decide) (by decide) (by kernel_rfl) (by kernel_rfl) inv (fun _ _ _ h => h) (Or.inl ⟨by kernel_rfl, ?_⟩) hS (fun inv => ?_)
      · intro wz hSw
        go_simp
      (try simp only [Act.put, List.getElem_toArray, List.getElem_cons_zero, List.getElem_cons_succ, List.setIfInBounds_toArray, List.set_cons_zero, List.set_cons_succ])
      refine anyT_take (i := 10) (oi := _) (v := Value.int IntKind.u8 (qt q k)) rfl (by kernel_rfl) (by kernel_rfl) (by kernel_rfl) (by decide) (by decide) (by kernel_rfl) (by kernel_rfl) inv (fun _ _ _ h => h) (Or.inl ⟨by kernel_rfl, ?_⟩) hS (fun inv => ?_)
      · intro wz hSw
        have hk0 := (hSw : Below _ _ _).cell (p := ⟨h, k, none⟩) (by first | assumption | (simp; done) | omega | (simp; omega)); go_simp
      (try simp only [Act.put, List.getElem_toArray, List.getElem_cons_zero, List.getElem_cons_succ, List.setIfInBounds_toArray, List.set_cons_zero, List.set_cons_succ])
      refine anyT_ready (rs := [11]) (by kernel_rfl) (by simp) ?_
      refine ReadyT.head (o := _) rfl (by decide) (by kernel_rfl) inv (fun K hK => ?_) ReadyT.nil
      go_simp
      refine (HO.out.ct (qt p k) (qt q k) _ b1.1 b2.1 HTr.out.drew).mono ?_
      rintro e wz ⟨rfl, m, rfl⟩
      go_wp2_with fail
      refine hK.out _ _ ?_ (fun hS inv => ?_)
      · exact below_drewN (Below.refl _ _) _
      clear hK K
      (try simp only [Act.put, List.getElem_toArray, List.getElem_cons_zero, List.getElem_cons_succ, List.setIfInBounds_toArray, List.set_cons_zero, List.set_cons_succ])
      refine anyT_take (i := 12) (oi := _) (v := Value.pointer (some ⟨g, k, none⟩)) rfl (by kernel_rfl) (by kernel_rfl) (by kernel_rfl) (by decide) (by decide) (by kernel_rfl) (by kernel_rfl) inv (fun _ _ _ h => h) (Or.inl ⟨by kernel_rfl, ?_⟩) hS (fun inv => ?_)
      · intro wz hSw
        go_simp
      (try simp only [Act.put, List.getElem_toArray, List.getElem_cons_zero, List.getElem_cons_succ, List.setIfInBounds_toArray, List.set_cons_zero, List.set_cons_succ])
      refine anyT_ready (rs := [13]) (by kernel_rfl) (by simp) ?_
      refine ReadyT.tail (o := _) rfl (by decide) (fun K hK => ?_)
      go_simp
      refine hK.out _ _ ?_
      clear hK K
      (try simp only [Act.put, List.getElem_toArray, List.getElem_cons_zero, List.getElem_cons_succ, List.setIfInBounds_toArray, List.set_cons_zero, List.set_cons_succ])
      refine anyT_done (by kernel_rfl) ?_ _
      go_wp2
      go_roundw
      case rel => exact ⟨k + 1, by omega, by go_num, hRH.out.step (by omega) hne _⟩
      case measure => simp [intOf]; omega
    · have hRH := hide hR
      have e : k = n := by omega
      subst e
      obtain ⟨kcB, kfB⟩ := bcellB hR.bel
      obtain ⟨p', hp'⟩ : ∃ p', p' = ql k fun i => f (qt p i) (qt q i) := ⟨_, rfl⟩
      have hBr : Below w.heap.size w wr := hb1.trans (hR.bel.mono (by omega))
      clear hR
      go_wp2
      refine bodyPost_ret (v := .agg #[.slice (some ⟨g, 0, none⟩) k pc, .bool σ]) (by simp [results, Tryd.results46, go_sem, *]) rfl ?_
      refine ⟨p', σ, some ⟨g, 0, none⟩, pc, hide ?_, by rw [show p'.length = k from by rw [hp', ql_length]], hide (by rw [show p'.length = k from by rw [hp', ql_length], ← C1.out]; exact Cp.out), hide fun _ => ⟨g, rfl, by omega, ?_⟩, by (repeat (first | with_reducible exact Below.refl _ _ | with_reducible assumption | with_reducible refine Below.setCell ?_ (by first | (simp; done) | omega | (simp; omega)) _ | with_reducible refine Below.alloc ?_ (by first | (simp; done) | omega | (simp; omega)) _ | with_reducible refine below_drewN ?_ _ | with_reducible refine Below.drew ?_))⟩
      · unfold btw
        rw [← HN.out, ← HSG.out, hp']
        exact Vc.ext' (ql_congr fun i hi => by rw [Ep.out, Eq.out]) rfl
      · rw [show p'.length = k from by rw [hp', ql_length]]
        have hrow : RowQ wr g k (qt p') := hRH.out.row.congr fun i hi => by rw [hp', qt_ql_lt hi]; simp [Mix, hi]
        exact ((hrow.far (by simp; omega) _).far (by simp; omega) _)
end
section
open Go.RowKit
set_option maxRecDepth 100000
set_option linter.unusedSimpArgs false
set_option linter.unusedVariables false
theorem vAnd_any (A B : Option Addr) (a b : List Int) (c d : Nat) (s t : Bool) (w : World) (ha : a.length ≤ 4096) (hb : b.length ≤ 4096) (hca : Hid (a.length ≤ c ∧ c ≤ maxLen)) (hcb : Hid (b.length ≤ d ∧ d ≤ maxLen)) (hA : RQ w A a) (hB : RQ w B b) (ya : By a) (yb : By b) (ht : Tabs w) :
    Calls Tryd.prog 27 #[.agg #[.slice A a.length c, .bool s], .agg #[.slice B b.length d, .bool t]] w (RetC (· = btw mAnd ⟨a, s⟩ ⟨b, t⟩) w) := by
  have HA := hide hA
  have HBB := hide hB
  have LA := hide ha
  have LB := hide hb
  have YA := hide ya
  have YB := hide yb
  clear hA hB ha hb ya yb
  have HT := hide ht
  clear ht
  go_enter Tryd.func27, Tryd.ntmps27
  go_wp2_with fail
  refine (bitwise_any _ _ opF_and A B a b c d s t _ LA.out LB.out hca hcb (HA.out.below (by (repeat (first | with_reducible exact Below.refl _ _ | with_reducible assumption | with_reducible refine Below.setCell ?_ (by first | (simp; done) | omega | (simp; omega)) _ | with_reducible refine Below.alloc ?_ (by first | (simp; done) | omega | (simp; omega)) _ | with_reducible refine below_drewN ?_ _ | with_reducible refine Below.drew ?_)))) (HBB.out.below (by (repeat (first | with_reducible exact Below.refl _ _ | with_reducible assumption | with_reducible refine Below.setCell ?_ (by first | (simp; done) | omega | (simp; omega)) _ | with_reducible refine Below.alloc ?_ (by first | (simp; done) | omega | (simp; omega)) _ | with_reducible refine below_drewN ?_ _ | with_reducible refine Below.drew ?_)))) YA.out YB.out (HT.out.kept (by (repeat (first | with_reducible exact Below.refl _ _ | with_reducible assumption | with_reducible refine Below.setCell ?_ (by first | (simp; done) | omega | (simp; omega)) _ | with_reducible refine Below.alloc ?_ (by first | (simp; done) | omega | (simp; omega)) _ | with_reducible refine below_drewN ?_ _ | with_reducible refine Below.drew ?_))))).mono ?_
  rintro e w1 ⟨l1, s1, A1, c1, E1, rfl, C1, O1, hb⟩
  replace O1 := hide (O1.out.base (show w.heap.size + 3 ≤ _ by first | omega | (simp; omega) | (simp; done)))
  have hB1 : Below w.heap.size w w1 := Below.trans (by (repeat (first | with_reducible exact Below.refl _ _ | with_reducible assumption | with_reducible refine Below.setCell ?_ (by first | (simp; done) | omega | (simp; omega)) _ | with_reducible refine Below.alloc ?_ (by first | (simp; done) | omega | (simp; omega)) _ | with_reducible refine below_drewN ?_ _ | with_reducible refine Below.drew ?_))) (hb.mono (by first | omega | (simp; omega)))
  obtain ⟨kc1, kf1⟩ := bcell hb
  have hz1 := hb.size
  (try simp at hz1)
  have n1_0 : w.heap.size < w1.heap.size := by omega
  have n1_1 : w.heap.size + 1 < w1.heap.size := by omega
  have n1_2 : w.heap.size + 2 < w1.heap.size := by omega
  clear hb
  go_wp2
  refine bodyPost_ret (v := .agg #[.slice A1 l1.length c1, .bool s1]) (by simp [results, Tryd.results27, go_sem, *]) rfl ?_
  exact ⟨l1, s1, A1, c1, hide (E1.out), rfl, C1, hide (OwQ.base (B := w.heap.size + 3) (by (repeat (first | with_reducible exact O1.out | with_reducible refine OwQ.far ?_ (by first | (simp; done) | omega | (simp; omega)) _ | with_reducible refine OwQ.allc ?_ _ | with_reducible refine OwQ.drew ?_ | with_reducible refine OwQ.drewN ?_ _))) (by omega)), by (repeat (first | with_reducible exact Below.refl _ _ | with_reducible assumption | with_reducible refine Below.setCell ?_ (by first | (simp; done) | omega | (simp; omega)) _ | with_reducible refine Below.alloc ?_ (by first | (simp; done) | omega | (simp; omega)) _ | with_reducible refine below_drewN ?_ _ | with_reducible refine Below.drew ?_))⟩
theorem vXnor_any (A B : Option Addr) (a b : List Int) (c d : Nat) (s t : Bool) (w : World) (ha : a.length ≤ 4096) (hb : b.length ≤ 4096) (hca : Hid (a.length ≤ c ∧ c ≤ maxLen)) (hcb : Hid (b.length ≤ d ∧ d ≤ maxLen)) (hA : RQ w A a) (hB : RQ w B b) (ya : By a) (yb : By b) (ht : Tabs w) :
    Calls Tryd.prog 56 #[.agg #[.slice A a.length c, .bool s], .agg #[.slice B b.length d, .bool t]] w (RetC (· = btw mEq ⟨a, s⟩ ⟨b, t⟩) w) := by
  have HA := hide hA
  have HBB := hide hB
  have LA := hide ha
  have LB := hide hb
  have YA := hide ya
  have YB := hide yb
  clear hA hB ha hb ya yb
  have HT := hide ht
  clear ht
  go_enter Tryd.func56, Tryd.ntmps56
  go_wp2_with fail
  refine (bitwise_any _ _ opF_eq A B a b c d s t _ LA.out LB.out hca hcb (HA.out.below (by (repeat (first | with_reducible exact Below.refl _ _ | with_reducible assumption | with_reducible refine Below.setCell ?_ (by first | (simp; done) | omega | (simp; omega)) _ | with_reducible refine Below.alloc ?_ (by first | (simp; done) | omega | (simp; omega)) _ | with_reducible refine below_drewN ?_ _ | with_reducible refine Below.drew ?_)))) (HBB.out.below (by (repeat (first | with_reducible exact Below.refl _ _ | with_reducible assumption | with_reducible refine Below.setCell ?_ (by first | (simp; done) | omega | (simp; omega)) _ | with_reducible refine Below.alloc ?_ (by first | (simp; done) | omega | (simp; omega)) _ | with_reducible refine below_drewN ?_ _ | with_reducible refine Below.drew ?_)))) YA.out YB.out (HT.out.kept (by (repeat (first | with_reducible exact Below.refl _ _ | with_reducible assumption | with_reducible refine Below.setCell ?_ (by first | (simp; done) | omega | (simp; omega)) _ | with_reducible refine Below.alloc ?_ (by first | (simp; done) | omega | (simp; omega)) _ | with_reducible refine below_drewN ?_ _ | with_reducible refine Below.drew ?_))))).mono ?_
  rintro e w1 ⟨l1, s1, A1, c1, E1, rfl, C1, O1, hb⟩
  replace O1 := hide (O1.out.base (show w.heap.size + 3 ≤ _ by first | omega | (simp; omega) | (simp; done)))
  have hB1 : Below w.heap.size w w1 := Below.trans (by (repeat (first | with_reducible exact Below.refl _ _ | with_reducible assumption | with_reducible refine Below.setCell ?_ (by first | (simp; done) | omega | (simp; omega)) _ | with_reducible refine Below.alloc ?_ (by first | (simp; done) | omega | (simp; omega)) _ | with_reducible refine below_drewN ?_ _ | with_reducible refine Below.drew ?_))) (hb.mono (by first | omega | (simp; omega)))
  obtain ⟨kc1, kf1⟩ := bcell hb
  have hz1 := hb.size
  (try simp at hz1)
  have n1_0 : w.heap.size < w1.heap.size := by omega
  have n1_1 : w.heap.size + 1 < w1.heap.size := by omega
  have n1_2 : w.heap.size + 2 < w1.heap.size := by omega
  clear hb
  go_wp2
  refine bodyPost_ret (v := .agg #[.slice A1 l1.length c1, .bool s1]) (by simp [results, Tryd.results56, go_sem, *]) rfl ?_
  exact ⟨l1, s1, A1, c1, hide (E1.out), rfl, C1, hide (OwQ.base (B := w.heap.size + 3) (by (repeat (first | with_reducible exact O1.out | with_reducible refine OwQ.far ?_ (by first | (simp; done) | omega | (simp; omega)) _ | with_reducible refine OwQ.allc ?_ _ | with_reducible refine OwQ.drew ?_ | with_reducible refine OwQ.drewN ?_ _))) (by omega)), by (repeat (first | with_reducible exact Below.refl _ _ | with_reducible assumption | with_reducible refine Below.setCell ?_ (by first | (simp; done) | omega | (simp; omega)) _ | with_reducible refine Below.alloc ?_ (by first | (simp; done) | omega | (simp; omega)) _ | with_reducible refine below_drewN ?_ _ | with_reducible refine Below.drew ?_))⟩
theorem btw_not (a : Vc) : btw (fun p _ => mNot p) a a = vNot a := by
  have hw : wd a a = (cnt a).b.length := by unfold wd; omega
  have hs : sg a a = (cnt a).s := by unfold sg; cases (cnt a).s <;> rfl
  unfold btw vNot
  refine Vc.ext' ?_ hs
  rw [hw]
  refine ql_congr fun i hi => ?_
  unfold blA
  rw [hw, hs, show rsz ⟨(cnt a).b, (cnt a).s⟩ (cnt a).b.length = (cnt a).b from rsz_self (cnt a)]
theorem vNot_any (A : Option Addr) (a : List Int) (c : Nat) (s : Bool) (w : World) (ha : a.length ≤ 4096) (hca : Hid (a.length ≤ c ∧ c ≤ maxLen)) (hA : RQ w A a) (ya : By a) (ht : Tabs w) :
    Calls Tryd.prog 51 #[.agg #[.slice A a.length c, .bool s]] w (RetC (· = vNot ⟨a, s⟩) w) := by
  have HA := hide hA
  have LA := hide ha
  have YA := hide ya
  clear hA ha ya
  have HT := hide ht
  clear ht
  go_enter Tryd.func51, Tryd.ntmps51
  go_wp2_with fail
  refine (bitwise_any _ _ opF_not A A a a c c s s _ LA.out LA.out hca hca (HA.out.below (by (repeat (first | with_reducible exact Below.refl _ _ | with_reducible assumption | with_reducible refine Below.setCell ?_ (by first | (simp; done) | omega | (simp; omega)) _ | with_reducible refine Below.alloc ?_ (by first | (simp; done) | omega | (simp; omega)) _ | with_reducible refine below_drewN ?_ _ | with_reducible refine Below.drew ?_)))) (HA.out.below (by (repeat (first | with_reducible exact Below.refl _ _ | with_reducible assumption | with_reducible refine Below.setCell ?_ (by first | (simp; done) | omega | (simp; omega)) _ | with_reducible refine Below.alloc ?_ (by first | (simp; done) | omega | (simp; omega)) _ | with_reducible refine below_drewN ?_ _ | with_reducible refine Below.drew ?_)))) YA.out YA.out (HT.out.kept (by (repeat (first | with_reducible exact Below.refl _ _ | with_reducible assumption | with_reducible refine Below.setCell ?_ (by first | (simp; done) | omega | (simp; omega)) _ | with_reducible refine Below.alloc ?_ (by first | (simp; done) | omega | (simp; omega)) _ | with_reducible refine below_drewN ?_ _ | with_reducible refine Below.drew ?_))))).mono ?_
  rintro e w1 ⟨l1, s1, A1, c1, E1, rfl, C1, O1, hb⟩
  replace O1 := hide (O1.out.base (show w.heap.size + 2 ≤ _ by first | omega | (simp; omega) | (simp; done)))
  have hB1 : Below w.heap.size w w1 := Below.trans (by (repeat (first | with_reducible exact Below.refl _ _ | with_reducible assumption | with_reducible refine Below.setCell ?_ (by first | (simp; done) | omega | (simp; omega)) _ | with_reducible refine Below.alloc ?_ (by first | (simp; done) | omega | (simp; omega)) _ | with_reducible refine below_drewN ?_ _ | with_reducible refine Below.drew ?_))) (hb.mono (by first | omega | (simp; omega)))
  obtain ⟨kc1, kf1⟩ := bcell hb
  have hz1 := hb.size
  (try simp at hz1)
  have n1_0 : w.heap.size < w1.heap.size := by omega
  have n1_1 : w.heap.size + 1 < w1.heap.size := by omega
  clear hb
  go_wp2
  refine bodyPost_ret (v := .agg #[.slice A1 l1.length c1, .bool s1]) (by simp [results, Tryd.results51, go_sem, *]) rfl ?_
  exact ⟨l1, s1, A1, c1, hide (E1.out.trans (btw_not _)), rfl, C1, hide (OwQ.base (B := w.heap.size + 2) (by (repeat (first | with_reducible exact O1.out | with_reducible refine OwQ.far ?_ (by first | (simp; done) | omega | (simp; omega)) _ | with_reducible refine OwQ.allc ?_ _ | with_reducible refine OwQ.drew ?_ | with_reducible refine OwQ.drewN ?_ _))) (by omega)), by (repeat (first | with_reducible exact Below.refl _ _ | with_reducible assumption | with_reducible refine Below.setCell ?_ (by first | (simp; done) | omega | (simp; omega)) _ | with_reducible refine Below.alloc ?_ (by first | (simp; done) | omega | (simp; omega)) _ | with_reducible refine below_drewN ?_ _ | with_reducible refine Below.drew ?_))⟩
end
section
open Go.RowKit
set_option maxRecDepth 100000
set_option linter.unusedSimpArgs false
set_option linter.unusedVariables false
theorem and_mask {z : Nat} (h : z < 4294967296) : bits .and .u64 (z : Int) 4294967295 = z := by
  show IntKind.u64.wrap ((BitVec.ofInt 64 z &&& BitVec.ofInt 64 4294967295).toNat : Int) = _
  have e : (BitVec.ofInt 64 (z : Int) &&& BitVec.ofInt 64 4294967295).toNat = z := by
    rw [BitVec.toNat_and, BitVec.toNat_ofInt, BitVec.toNat_ofInt]
    rw [show ((4294967295 : Int) % ((2 ^ 64 : Nat) : Int)).toNat = 2 ^ 32 - 1 from rfl, Nat.and_two_pow_sub_one_eq_mod]
    omega
  rw [e, IntKind.wrap_u64]
  omega
theorem mul64_any (x y : Nat) (w : World) (hx : x ≤ 4096) (hy : y ≤ 4096) :
    Calls Tryd.prog 106 #[.int .u64 x, .int .u64 y] w fun e w' => e = .returned (.tuple #[.int .u64 0, .int .u64 (x * y : Nat)]) ∧ w = w' := by
  have e1 := and_mask (z := x) (by omega)
  have e2 := and_mask (z := y) (by omega)
  have e3 : (x : Int) / 4294967296 = 0 := by omega
  have e4 : (y : Int) / 4294967296 = 0 := by omega
  obtain ⟨m, hm⟩ : ∃ m, m = x * y := ⟨_, rfl⟩
  have hm1 : m ≤ 16777216 := by rw [hm]; exact Nat.mul_le_mul hx hy
  have e5 : (x : Int) * y = (m : Int) := by rw [hm]; simp
  have e6 := and_mask (z := m) (by omega)
  have e7 : (m : Int) / 4294967296 = 0 := by omega
  have HM := hide hm
  rw [← hm]
  clear hm
  go_enter Tryd.func106, Tryd.ntmps106
  go_wp2
  go_ret2
  exact ⟨rfl, rfl⟩
theorem mulb_any (x y : Nat) (w : World) (hx : x ≤ 4096) (hy : y ≤ 4096) :
    Calls Tryd.prog 97 #[.int .u64 x, .int .u64 y] w fun e w' => e = .returned (.tuple #[.int .u64 0, .int .u64 (x * y : Nat)]) ∧ w = w' := by
  obtain ⟨m, hm⟩ : ∃ m, m = x * y := ⟨_, rfl⟩
  have hm1 : m ≤ 16777216 := by rw [hm]; exact Nat.mul_le_mul hx hy
  have hc := hide fun w => mul64_any x y w hx hy
  rw [← hm]
  rw [← hm] at hc
  clear hm
  go_enter Tryd.func97, Tryd.ntmps97
  go_wp2_with (go_at_call 106; refine (hc.out _).mono ?_; rintro e w' ⟨rfl, rfl⟩)
  go_ret2
  exact ⟨rfl, rfl⟩
theorem bit_size : (Tryd.prog.info? 47).map (·.size) = some 1 := by kernel_rfl
theorem bits_one (f : Nat → Int) (n : Nat) : ∀ v ∈ (List.range n).map (fun i => Value.int .u8 (f i)), v.oneCell' = true := by
  intro v hv
  simp only [List.mem_map] at hv
  obtain ⟨b, _, rfl⟩ := hv
  rfl
theorem splice_get (cur cs : List Value) (off i : Nat) (h : off + cs.length ≤ cur.length) : (splice cur off cs)[i]? = if i < off then cur[i]? else if i < off + cs.length then cs[i - off]? else cur[i]? := by
  unfold splice
  have ht : (List.take off cur).length = off := by simp; omega
  by_cases h1 : i < off
  · rw [if_pos h1, List.getElem?_append_left (by omega), List.getElem?_take, if_pos h1]
  · rw [if_neg h1, List.getElem?_append_right (by omega), ht]
    by_cases h2 : i < off + cs.length
    · rw [if_pos h2, List.getElem?_append_left (by omega)]
    · rw [if_neg h2, List.getElem?_append_right (by omega), List.getElem?_drop]
      congr 1; omega
theorem rowq_open {w : World} {g n : Nat} {F : Nat → Int} (h : RowQ w g n F) : ∃ cs : List Value, Hid (w.heap[g]? = some (.cells cs.toArray 47 (0, 0))) ∧ Hid (∀ i, i < n → cs[i]? = some (.int .u8 (F i))) ∧ n ≤ cs.length := by
  obtain ⟨cs, hg, hc⟩ := h
  refine ⟨cs.toList, hide hg, hide fun i hi => by rw [Array.getElem?_toList]; exact hc i hi, ?_⟩
  rcases Nat.eq_zero_or_pos n with h0 | h0
  · omega
  · have := hc (n - 1) (by omega)
    rcases Nat.lt_or_ge (n - 1) cs.size with h1 | h1
    · simp; omega
    · rw [Array.getElem?_eq_none h1] at this; cases this
/-- What the rounds of Repeat leave: the first m cells are filled. -/
def RepI (w : World) (N m : Nat) (F : Nat → Int) (wr : World) : Prop :=
  (∃ cs : List Value, wr.heap[w.heap.size]? = some (.cells cs.toArray 47 (0, 0)) ∧ N ≤ cs.length ∧ ∀ i, i < m → cs[i]? = some (.int .u8 (F i))) ∧ Below w.heap.size w wr
theorem rep_mod {L m i : Nat} (hL : 0 < L) (hm : m % L = 0) (hi : m ≤ i) : (i - m) % L = i % L := by
  obtain ⟨q, rfl⟩ : ∃ q, m = L * q := ⟨m / L, by have := Nat.div_add_mod m L; omega⟩
  obtain ⟨j, rfl⟩ : ∃ j, i = L * q + j := ⟨i - L * q, by omega⟩
  rw [Nat.add_sub_cancel_left, Nat.mul_add_mod]
set_option maxHeartbeats 2000000 in
theorem repeat_any (A : Option Addr) (a : List Int) (c k N : Nat) (w : World) (h0 : 0 < a.length) (hk : 0 < k) (hN : a.length * k = N) (hN2 : N ≤ 4096) (hA : RQ w A a) :
    Calls Tryd.prog 86 #[.slice A a.length c, .int .i64 k] w (MkQ (ql N fun i => qt a (i % a.length)) w) := by
  have hL : a.length ≤ N := by rw [← hN]; exact Nat.le_mul_of_pos_right _ hk
  have hkN : k ≤ N := by rw [← hN]; exact Nat.le_mul_of_pos_left _ h0
  have hmod : N % a.length = 0 := by rw [← hN]; exact Nat.mul_mod_right _ _
  obtain ⟨L, hLe⟩ : ∃ L, L = a.length := ⟨_, rfl⟩
  obtain ⟨F, hF⟩ : ∃ F : Nat → Int, F = fun i => qt a (i % a.length) := ⟨_, rfl⟩
  have HF := hide hF
  obtain ⟨X, hX⟩ : ∃ X : List Value, X = (List.range L).map fun i => .int .u8 (F i) := ⟨_, rfl⟩
  have hXl : X.length = L := by rw [hX]; simp
  have hX1 : Hid (∀ v ∈ X, v.oneCell' = true) := hide (by rw [hX]; exact bits_one _ _)
  have HX := hide hX
  obtain ⟨ad, rfl, hlt, hc0⟩ := hA h0
  have hsrc : Hid (∀ w', Below w.heap.size w w' → ∀ j v, X[j]? = some v → w'.cell? (ad.add j) = some v) := hide (fun w' hb j v hj => by
    rw [hX, List.getElem?_map] at hj
    rcases Nat.lt_or_ge j L with hjl | hjl
    · rw [List.getElem?_range hjl] at hj
      rw [hb.cell (p := ad.add j) (by rw [block_of_add]; exact hlt), hc0 j (by omega), ← hj, hF]
      simp [Nat.mod_eq_of_lt (show j < a.length by omega)]
    · rw [List.getElem?_eq_none (by simpa using hjl)] at hj; cases hj)
  have hmul := hide fun w => mulb_any L k w (by omega) (by omega)
  rw [← hLe] at hN hL hmod h0 hF ⊢
  rw [hN] at hmul
  rw [← hF]
  clear hX hA hc0 hF
  have hkN2 : (k : Int) ≤ 4096 := by omega
  have HMOD := hide hmod
  have HLE := hide hLe
  have HN := hide hN
  clear hmod hLe hN
  go_enter Tryd.func86, Tryd.ntmps86
  go_wp2_with (first
    | (go_at_call 97; with_reducible refine (hmul.out _).mono ?_; rintro e w' ⟨rfl, rfl⟩)
    | (at_make; refine wpList_make_q _ rfl _ _ rfl _ _ N rfl rfl rfl rfl hN2 ?_; intro w1 hr1 hb1 hz1; obtain ⟨cs, hg, hcs, hlen⟩ := rowq_open hr1; clear hr1)
    | ((show wpList _ _ _ (⟨some 33, _, _, _, _, _⟩ :: _) _ _); refine wpList_copy_splice rfl (.tmp 31) (.tmp 32) 22 22 rfl 47 Tryd.underlying22 bit_size (some ⟨w.heap.size, 0, none⟩) (some ad) N N L c rfl rfl w.heap.size 0 cs 47 hg.out X (hXl.trans (Nat.min_eq_left hL).symm) (fun _ => ⟨rfl, ad, rfl, hsrc.out _ hb1⟩) (by omega) hX1.out w.heap.size w hb1 (Nat.le_refl _) ?_; intro w2 hg2 hb2))
  have hR2 : Hid (RepI w N L F w2) := hide ⟨⟨_, hg2.out, by rw [length_splice _ _ _ (by omega)]; exact hlen, fun i hi => by
    rw [splice_get _ _ _ _ (by omega), if_neg (by omega), if_pos (by omega), HX.out, List.getElem?_map, List.getElem?_range (by simpa using hi)]; rfl⟩, hb2⟩
  clear hg hcs hlen hg2 hb1 hb2
  clear hX1 HX hsrc hXl
  go_loopw [8] (fun v wr => ∃ m : Nat, v = .int .i64 m ∧ L ≤ m ∧ m ≤ N ∧ Hid (m % L = 0 ∨ m = N) ∧ RepI w N m F wr) (fun v _ => N - (intOf v).toNat)
  case atStart => exact ⟨L, rfl, Nat.le_refl _, hL, hide (Or.inl (Nat.mod_self _)), hR2.out⟩
  case round =>
    clear hR2
    obtain ⟨m, rfl, hLm, hmN, hmm, hR⟩ := hrel
    have hRH := hide hR
    obtain ⟨⟨cs, hg, hlen, hcs⟩, hb⟩ := hR
    have Hcs := hide hcs
    have Hg := hide hg
    clear hcs hg
    by_cases hlt : m < N
    · obtain ⟨X, hX⟩ : ∃ X : List Value, X = (List.range (min m (N - m))).map fun i => .int .u8 (F i) := ⟨_, rfl⟩
      have hXl : X.length = min m (N - m) := by rw [hX]; simp
      have HXl := hide hXl
      have hX1 : Hid (∀ v ∈ X, v.oneCell' = true) := hide (by rw [hX]; exact bits_one _ _)
      have HX := hide hX
      have hsrc : Hid (∀ j v, X[j]? = some v → wr.drew.cell? ((⟨w.heap.size, 0, none⟩ : Addr).add j) = some v) := hide fun j v hj => by
        show wr.cell? _ = _
        rw [addr_add, cell_of_row _ _ _ _ _ _ Hg.out, List.getElem?_toArray]
        rw [hX, List.getElem?_map] at hj
        rcases Nat.lt_or_ge j (min m (N - m)) with hjl | hjl
        · rw [List.getElem?_range hjl] at hj
          rw [Hcs.out j (by omega), ← hj]; rfl
        · rw [List.getElem?_eq_none (by simpa using hjl)] at hj; cases hj
      have hfit : Hid (m + X.length ≤ cs.length) := hide (by omega)
      have hne : ¬ N = m := by omega
      have hxl : X.length ≤ 4096 := by omega
      have hwr : IntKind.i64.wrap ((m : Int) + (X.length : Int)) = (m : Int) + X.length := by rw [IntKind.wrap_i64]; omega
      clear hX hXl
      go_wp2_with fail
      refine region_anyT (S := fun _ => True) (n := 9) (by kernel_rfl) trivial (fun hS inv => ?_)
      refine anyT_take (i := 0) (oi := _) (v := Value.int IntKind.i64 ↑m) rfl (by kernel_rfl) (by kernel_rfl) (by kernel_rfl) (by decide) (by decide) (by kernel_rfl) (by kernel_rfl) inv (fun _ _ _ h => h) (Or.inl ⟨by kernel_rfl, ?_⟩) hS (fun inv => ?_)
      · intro wz hSw
        first | kernel_rfl | go_simp
      (try simp only [Act.put, List.getElem_toArray, List.getElem_cons_zero, List.getElem_cons_succ, List.setIfInBounds_toArray, List.set_cons_zero, List.set_cons_succ])
      refine anyT_take (i := 1) (oi := _) (v := Value.slice (some ⟨w.heap.size, 0, none⟩) N N) rfl (by kernel_rfl) (by kernel_rfl) (by kernel_rfl) (by decide) (by decide) (by kernel_rfl) (by kernel_rfl) inv (fun _ _ _ h => h) (Or.inl ⟨by kernel_rfl, ?_⟩) hS (fun inv => ?_)
      · intro wz hSw
        first | kernel_rfl | go_simp
      (try simp only [Act.put, List.getElem_toArray, List.getElem_cons_zero, List.getElem_cons_succ, List.setIfInBounds_toArray, List.set_cons_zero, List.set_cons_succ])
      refine anyT_take (i := 2) (oi := _) (v := Value.int IntKind.i64 ↑m) rfl (by kernel_rfl) (by kernel_rfl) (by kernel_rfl) (by decide) (by decide) (by kernel_rfl) (by kernel_rfl) inv (fun _ _ _ h => h) (Or.inl ⟨by kernel_rfl, ?_⟩) hS (fun inv => ?_)
      · intro wz hSw
        first | kernel_rfl | go_simp
      (try simp only [Act.put, List.getElem_toArray, List.getElem_cons_zero, List.getElem_cons_succ, List.setIfInBounds_toArray, List.set_cons_zero, List.set_cons_succ])
      refine anyT_take (i := 3) (oi := _) (v := Value.slice (some ⟨w.heap.size, m, none⟩) (N - m) (N - m)) rfl (by kernel_rfl) (by kernel_rfl) (by kernel_rfl) (by decide) (by decide) (by kernel_rfl) (by kernel_rfl) inv (fun _ _ _ h => h) (Or.inl ⟨by kernel_rfl, ?_⟩) hS (fun inv => ?_)
      · intro wz hSw
        go_simp
      (try simp only [Act.put, List.getElem_toArray, List.getElem_cons_zero, List.getElem_cons_succ, List.setIfInBounds_toArray, List.set_cons_zero, List.set_cons_succ])
      refine anyT_take (i := 4) (oi := _) (v := Value.slice (some ⟨w.heap.size, 0, none⟩) N N) rfl (by kernel_rfl) (by kernel_rfl) (by kernel_rfl) (by decide) (by decide) (by kernel_rfl) (by kernel_rfl) inv (fun _ _ _ h => h) (Or.inl ⟨by kernel_rfl, ?_⟩) hS (fun inv => ?_)
      · intro wz hSw
        first | kernel_rfl | go_simp
      (try simp only [Act.put, List.getElem_toArray, List.getElem_cons_zero, List.getElem_cons_succ, List.setIfInBounds_toArray, List.set_cons_zero, List.set_cons_succ])
      refine anyT_take (i := 5) (oi := _) (v := Value.int IntKind.i64 ↑m) rfl (by kernel_rfl) (by kernel_rfl) (by kernel_rfl) (by decide) (by decide) (by kernel_rfl) (by kernel_rfl) inv (fun _ _ _ h => h) (Or.inl ⟨by kernel_rfl, ?_⟩) hS (fun inv => ?_)
      · intro wz hSw
        first | kernel_rfl | go_simp
      (try simp only [Act.put, List.getElem_toArray, List.getElem_cons_zero, List.getElem_cons_succ, List.setIfInBounds_toArray, List.set_cons_zero, List.set_cons_succ])
      refine anyT_take (i := 6) (oi := _) (v := Value.slice (some ⟨w.heap.size, 0, none⟩) m N) rfl (by kernel_rfl) (by kernel_rfl) (by kernel_rfl) (by decide) (by decide) (by kernel_rfl) (by kernel_rfl) inv (fun _ _ _ h => h) (Or.inl ⟨by kernel_rfl, ?_⟩) hS (fun inv => ?_)
      · intro wz hSw
        go_simp
      (try simp only [Act.put, List.getElem_toArray, List.getElem_cons_zero, List.getElem_cons_succ, List.setIfInBounds_toArray, List.set_cons_zero, List.set_cons_succ])
      refine anyT_ready (rs := [7]) (by kernel_rfl) (by simp) ?_
      refine ReadyT.head (o := _) rfl (by decide) (by kernel_rfl) inv (fun K hK => ?_) ReadyT.nil
      refine step_copy_splice (by rfl) (.tmp 41) (.tmp 44) 22 22 (by rfl) 47 Tryd.underlying22 bit_size (some ⟨w.heap.size, m, none⟩) (some ⟨w.heap.size, 0, none⟩) (N - m) (N - m) m N (by kernel_rfl) (by kernel_rfl) w.heap.size m cs 47 Hg.out X HXl.out (fun _ => ⟨rfl, _, rfl, hsrc.out⟩) hfit.out hX1.out w.heap.size w hb.drew (Nat.le_refl _) ?_
      intro w4 hg4 hb4
      simp only [goInt]
      refine hK.out _ _ ?_ (fun hS inv => ?_)
      · exact trivial
      clear hK K
      (try simp only [Act.put, List.getElem_toArray, List.getElem_cons_zero, List.getElem_cons_succ, List.setIfInBounds_toArray, List.set_cons_zero, List.set_cons_succ])
      refine anyT_take (i := 8) (oi := _) (v := Value.int IntKind.i64 (m + X.length : Nat)) rfl (by kernel_rfl) (by kernel_rfl) (by kernel_rfl) (by decide) (by decide) (by kernel_rfl) (by kernel_rfl) inv (fun _ _ _ h => h) (Or.inl ⟨by kernel_rfl, ?_⟩) hS (fun inv => ?_)
      · intro wz hSw
        go_simp
      (try simp only [Act.put, List.getElem_toArray, List.getElem_cons_zero, List.getElem_cons_succ, List.setIfInBounds_toArray, List.set_cons_zero, List.set_cons_succ])
      refine anyT_ready (rs := [9]) (by kernel_rfl) (by simp) ?_
      refine ReadyT.tail (o := _) rfl (by decide) (fun K hK => ?_)
      go_simp
      refine hK.out _ _ ?_
      clear hK K
      (try simp only [Act.put, List.getElem_toArray, List.getElem_cons_zero, List.getElem_cons_succ, List.setIfInBounds_toArray, List.set_cons_zero, List.set_cons_succ])
      refine anyT_done (by kernel_rfl) ?_ _
      go_wp2
      go_roundw
      case rel => exact ⟨m + X.length, by go_num, by omega, by have := HXl.out; omega, hide (by
        have h1 := HXl.out
        rcases hmm.out with h2 | h2
        · rcases Nat.le_total m (N - m) with h3 | h3
          · left; rw [h1, Nat.min_eq_left h3, Nat.add_mod, h2]; simp
          · right; omega
        · omega), ⟨⟨_, hg4.out, by rw [length_splice _ _ _ hfit.out]; exact hlen, fun i hi => by
        rw [splice_get _ _ _ _ hfit.out]
        by_cases h1 : i < m
        · rw [if_pos h1]; exact Hcs.out i h1
        · rw [if_neg h1, if_pos hi, HX.out, List.getElem?_map, List.getElem?_range (by rw [← HXl.out]; omega)]
          have h2 : m % L = 0 := by rcases hmm.out with h2 | h2 <;> omega
          rw [HF.out, ← HLE.out, Option.map_some]
          simp only [rep_mod h0 h2 (Nat.le_of_not_lt h1)]⟩, hb4⟩⟩
      case measure => simp [intOf]; have := HXl.out; omega
    · have e : m = N := by omega
      subst e
      go_wp2
      go_ret
      obtain ⟨⟨cs', hg', hl', hc'⟩, hb'⟩ := hRH.out
      exact MkQ.mk_row (F := F) ⟨_, hg', fun i hi => by rw [List.getElem?_toArray]; exact hc' i hi⟩ rfl (Nat.le_refl _) hb' (Nat.le_refl _) (max_4096 hN2)
theorem repeat_q (A : Option Addr) (a : List Int) (c k N : Nat) (w : World) (h0 : 0 < a.length) (hk : 0 < k) (hN : a.length * k = N) (hN2 : N ≤ 4096) (hA : RQ w A a) :
    Calls Tryd.prog 86 #[.slice A a.length c, .int .i64 k] w (RetQP (· = ql N fun i => qt a (i % a.length)) w) :=
  (repeat_any A a c k N w h0 hk hN hN2 hA).mono fun _ _ h => RetQP.of_mkV rfl h
theorem unknown_any (n : Nat) (s : Bool) (w : World) (h0 : 0 < n) (hn : n ≤ 4096) :
    Calls Tryd.prog 62 #[.int .i64 n, .bool s] w (RetC (· = xs n s) w) := by
  go_enter Tryd.func62, Tryd.ntmps62
  go_wp2_with fail
  refine (repeat_q (some ⟨w.heap.size + 1, 0, none⟩) [2] 1 n n _ (by simp) h0 (by simp) hn (by have h := one_rq (w.alloc (.cells #[.slice none 0 0, .bool false] 24)) 2; simpa using h)).mono ?_
  rintro e w1 ⟨l1, A1, c1, E1, rfl, C1, O1, hb⟩
  replace O1 := hide (O1.out.base (show w.heap.size + 2 ≤ _ by first | omega | (simp; omega) | (simp; done)))
  have hB1 : Below w.heap.size w w1 := Below.trans (by (repeat (first | with_reducible exact Below.refl _ _ | with_reducible assumption | with_reducible refine Below.setCell ?_ (by first | (simp; done) | omega | (simp; omega)) _ | with_reducible refine Below.alloc ?_ (by first | (simp; done) | omega | (simp; omega)) _ | with_reducible refine below_drewN ?_ _ | with_reducible refine Below.drew ?_))) (hb.mono (by first | omega | (simp; done) | (simp; omega)))
  obtain ⟨kc1, kf1⟩ := bcell hb
  have hz1 := hb.size
  (try simp at hz1)
  have n1_0 : w.heap.size < w1.heap.size := by omega
  have n1_1 : w.heap.size + 1 < w1.heap.size := by omega
  have r1_0 : w1.cell? ⟨w.heap.size, 0, none⟩ = some (.slice none 0 0) := (kc1 _ _ (by first | assumption | (simp; done) | omega | (simp; omega))).trans (by first | assumption | (simp [go_sem]; done) | (simp; done))
  have g1_0 : w1.frozen? ⟨w.heap.size, 0, none⟩ = false := (kf1 _ _ (by first | assumption | (simp; done) | omega | (simp; omega))).trans (by first | assumption | (simp [go_sem]; done) | (simp; done))
  have r1_1 : w1.cell? ⟨w.heap.size, 1, none⟩ = some (.bool false) := (kc1 _ _ (by first | assumption | (simp; done) | omega | (simp; omega))).trans (by first | assumption | (simp [go_sem]; done) | (simp; done))
  have g1_1 : w1.frozen? ⟨w.heap.size, 1, none⟩ = false := (kf1 _ _ (by first | assumption | (simp; done) | omega | (simp; omega))).trans (by first | assumption | (simp [go_sem]; done) | (simp; done))
  clear hb
  go_wp2
  refine bodyPost_ret (v := .agg #[.slice A1 l1.length c1, .bool s]) (by simp [results, Tryd.results62, go_sem, *]) rfl ?_
  exact ⟨l1, s, A1, c1, hide (by rw [E1.out]; unfold xs; exact Vc.ext' (ql_congr fun i hi => by simp [Nat.mod_one, qt]) rfl), rfl, C1, hide (OwQ.base (B := w.heap.size + 2) (by (repeat (first | with_reducible exact O1.out | with_reducible refine OwQ.far ?_ (by first | (simp; done) | omega | (simp; omega)) _ | with_reducible refine OwQ.allc ?_ _ | with_reducible refine OwQ.drew ?_ | with_reducible refine OwQ.drewN ?_ _))) (by omega)), by (repeat (first | with_reducible exact Below.refl _ _ | with_reducible assumption | with_reducible refine Below.setCell ?_ (by first | (simp; done) | omega | (simp; omega)) _ | with_reducible refine Below.alloc ?_ (by first | (simp; done) | omega | (simp; omega)) _ | with_reducible refine below_drewN ?_ _ | with_reducible refine Below.drew ?_))⟩
/-- A round of a loop that fills a new row g. -/
structure FillG (w1 : World) (g n k : Nat) (f : Nat → Int) (wr : World) : Prop where
  row : RowQ wr g n (ParQ k f)
  bel : Below g w1 wr
theorem FillG.step {w1 wr : World} {g n k : Nat} {f : Nat → Int} (h : FillG w1 g n k f wr) : FillG w1 g n (k + 1) f (wr.setCell ⟨g, k, none⟩ (.int .u8 (f k))) where
  row := (h.row.set_ k _).congr fun j _ => ParQ.step k f j
  bel := h.bel.setCell (by simp) _
theorem FillG.start {w1 : World} {g n : Nat} {f : Nat → Int} (h : RowQ w1 g n (fun _ => 0)) : FillG w1 g n 0 f w1 := ⟨h.congr fun j _ => by simp [ParQ], Below.refl _ _⟩
theorem FillG.done {w1 wr : World} {g n : Nat} {f : Nat → Int} (h : FillG w1 g n n f wr) : RowQ wr g n f := h.row.congr fun j hj => by simp [ParQ, hj]
theorem bcellG {B : Nat} {W w1 : World} (hb : Below B W w1) : (∀ b o, b < B → w1.cell? ⟨b, o, none⟩ = W.cell? ⟨b, o, none⟩) ∧ (∀ b o, b < B → w1.frozen? ⟨b, o, none⟩ = W.frozen? ⟨b, o, none⟩) :=
  ⟨fun b o h => hb.cell (p := ⟨b, o, none⟩) h, fun b o h => hb.frozen (p := ⟨b, o, none⟩) h⟩
set_option maxHeartbeats 1000000 in
theorem vector_any (A : Option Addr) (a : List Bool) (c : Nat) (s : Bool) (w : World) (ha : a.length ≤ 4096) (hA : Rd w A a) :
    Calls Tryd.prog 58 #[.slice A a.length c, .bool s] w (RetC (· = ⟨fb a, s⟩) w) := by
  have HA := hide hA
  clear hA
  go_enter Tryd.func58, Tryd.ntmps58
  go_wp2_with (at_make; refine wpList_make_q _ rfl _ _ rfl _ _ a.length rfl rfl rfl rfl ha ?_; intro w1 hr1 hb1 hz1)
  have hr2 : RowQ w1 (w.heap.size + 1) a.length fun _ => 0 := by simpa using hr1
  have hb2 : Below (w.heap.size + 1) (w.alloc (.cells #[.slice none 0 0, .bool false] 24)) w1 := by simpa using hb1
  have hb0 : Below w.heap.size w w1 := Below.trans (by (repeat (first | with_reducible exact Below.refl _ _ | with_reducible assumption | with_reducible refine Below.setCell ?_ (by first | (simp; done) | omega | (simp; omega)) _ | with_reducible refine Below.alloc ?_ (by first | (simp; done) | omega | (simp; omega)) _ | with_reducible refine below_drewN ?_ _ | with_reducible refine Below.drew ?_))) (hb2.mono (by omega))
  obtain ⟨kc1, kf1⟩ := bcellG hb2
  clear hr1 hb1 hz1
  go_loopw [13] (fun i wr => ∃ k : Nat, k ≤ a.length ∧ i = .int .i64 k ∧ FillG w1 (w.heap.size + 1) a.length k (fun i => mFrom (bt a i)) wr) (fun i _ => a.length - (intOf i).toNat)
  case atStart => exact ⟨0, Nat.zero_le _, rfl, FillG.start hr2⟩
  case round =>
    obtain ⟨k, hk, rfl, hR⟩ := hrel
    have hRH := hide hR
    by_cases hlt : k < a.length
    · obtain ⟨ad, rfl, hlt1, hc0⟩ := HA.out.at_ hlt
      have hc : wr.cell? (ad.add k) = some (.bool (bt a k)) := ((hb0.trans (hR.bel.mono (by omega))).cell (p := ad.add k) (by rw [block_of_add]; exact hlt1)).trans hc0
      have hcg : wr.cell? ⟨w.heap.size + 1, k, none⟩ = some (.int .u8 (ParQ k (fun i => mFrom (bt a i)) k)) := hR.row.cell hlt
      have hf : wr.frozen? ⟨w.heap.size + 1, k, none⟩ = false := hR.row.free k
      clear hR
      go_wp2_with (go_at_call 48; refine (from_q _ _).mono ?_; rintro e w' ⟨rfl, rfl⟩)
      go_roundw
      case rel => exact ⟨k + 1, by omega, by go_num, hRH.out.step⟩
      case measure => simp [intOf]; omega
    · have e : k = a.length := by omega
      subst e
      obtain ⟨kcB, kfB⟩ := bcellG hR.bel
      have hBr : Below w.heap.size w wr := hb0.trans (hR.bel.mono (by omega))
      clear hR
      go_wp2
      refine bodyPost_ret (v := .agg #[.slice (some ⟨w.heap.size + 1, 0, none⟩) a.length a.length, .bool s]) (by simp [results, Tryd.results58, go_sem, *]) rfl ?_
      exact ⟨fb a, s, some ⟨w.heap.size + 1, 0, none⟩, a.length, hide rfl, by rw [fb_length], hide (by rw [fb_length]; exact ⟨Nat.le_refl _, max_4096 ha⟩), hide fun _ => ⟨_, rfl, by omega, by
        rw [fb_length]
        exact (((hRH.out.done.congr fun i hi => by unfold fb; rw [qt_ql_lt hi]).far (by simp) _).far (by simp) _)⟩, by (repeat (first | with_reducible exact Below.refl _ _ | with_reducible assumption | with_reducible refine Below.setCell ?_ (by first | (simp; done) | omega | (simp; omega)) _ | with_reducible refine Below.alloc ?_ (by first | (simp; done) | omega | (simp; omega)) _ | with_reducible refine below_drewN ?_ _ | with_reducible refine Below.drew ?_))⟩
end
section
open Go.RowKit
set_option maxRecDepth 100000
set_option linter.unusedSimpArgs false
set_option linter.unusedVariables false
theorem fld0 (A : Option Addr) (n c : Nat) (s : Bool) (w : World) : (Instr.field 24 (.agg #[.slice A n c, .bool s]) 0).run Tryd.prog w = .ok (.slice A n c) w := by kernel_rfl
set_option maxHeartbeats 1000000 in
theorem reduce_any (N : Nat) (f : Int → Int → Int) (hop : OpF N f) (A : Option Addr) (a : List Int) (c : Nat) (s : Bool) (w : World) (ha : a.length ≤ 4096) (hca : Hid (a.length ≤ c ∧ c ≤ maxLen)) (hA : RQ w A a) (ya : By a) (ht : Tabs w) :
    Calls Tryd.prog 77 #[.agg #[.slice A a.length c, .bool s], .func (.func N) #[] #[]] w (Mk (.int .u8 (red f ⟨a, s⟩)) w) := by
  have hcf : ∀ args w, (callFunc N args).run Tryd.prog w = .ok (.enter N args) w := hop.cf
  have HO := hide hop
  have hfld := fld0
  have HT := hide ht
  have HA := hide hA
  have LA := hide ha
  have YA := hide ya
  clear hA ha ya
  clear hop ht
  obtain ⟨R, hR⟩ : ∃ R, R = red f ⟨a, s⟩ := ⟨_, rfl⟩
  rw [← hR]
  have HR := hide hR
  clear hR
  go_enter Tryd.func77, Tryd.ntmps77
  go_wp2_with fail
  refine (counted_any A a c s w _ LA.out hca HA.out (by (repeat (first | with_reducible exact Below.refl _ _ | with_reducible assumption | with_reducible refine Below.setCell ?_ (by first | (simp; done) | omega | (simp; omega)) _ | with_reducible refine Below.alloc ?_ (by first | (simp; done) | omega | (simp; omega)) _ | with_reducible refine below_drewN ?_ _ | with_reducible refine Below.drew ?_)))).mono ?_
  rintro e w1 ⟨l1, s1, A1, c1, E1, rfl, C1, O1, hb⟩
  replace O1 := hide (O1.out.lower (show w.heap.size + 1 ≤ _ by first | omega | (simp; omega) | (simp; done)))
  have hB1 : Below w.heap.size w w1 := Below.trans (by (repeat (first | with_reducible exact Below.refl _ _ | with_reducible assumption | with_reducible refine Below.setCell ?_ (by first | (simp; done) | omega | (simp; omega)) _ | with_reducible refine Below.alloc ?_ (by first | (simp; done) | omega | (simp; omega)) _ | with_reducible refine below_drewN ?_ _ | with_reducible refine Below.drew ?_))) (hb.mono (by first | omega | (simp; done) | (simp; omega)))
  obtain ⟨kc1, kf1⟩ := bcell hb
  have hz1 := hb.size
  (try simp at hz1)
  have n1_0 : w.heap.size < w1.heap.size := by omega
  clear hb
  have G1 : Gd l1 := by have h := cnt_gd (v := ⟨a, s⟩) YA.out; rw [← E1.out] at h; exact h
  have p1 := G1.pos
  have p2 := G1.le
  obtain ⟨ad, rfl, hlt, _, hc0⟩ := O1.out G1.pos
  have HC0 := hide hc0
  have h00 := hc0 0 G1.pos
  have e00 : ad.add 0 = ad := by cases ad; simp [Addr.add]
  rw [e00] at h00
  clear hc0
  have HT1 := hide (HT.out.kept hB1)
  go_wp2_with fail
  refine (buf_q _ _ ((G1.bd 0).1) HT1.out.tb).mono ?_
  rintro e w' ⟨rfl, nd, rfl⟩
  obtain ⟨m, hm⟩ : ∃ m, l1.length = m + 1 := ⟨l1.length - 1, by omega⟩
  have HM := hide hm
  rw [hm]
  have hm2 : m ≤ 127 := by omega
  clear hm p1 p2
  have hm1 : m + 1 ≤ c1 := by have := C1.out.1; have := HM.out; omega
  have hr1 : Hid (∀ k, 0 ≤ rd f l1 k ∧ rd f l1 k ≤ 3) := hide fun k => by
    induction k with
    | zero => exact bd_of3 (mBuf_3 _)
    | succ k ih => exact HO.out.bd _ _ ih (G1.bd _)
  have HG1 := hide G1
  have e2 : red f ⟨a, s⟩ = rd f l1 m := by unfold red; rw [← E1.out]; show rd f l1 (l1.length - 1) = _; rw [HM.out]; rfl
  have E2 := hide (HR.out.trans e2)
  clear e2 G1
  go_wp2_with fail
  all_goals
    go_loopw [6, 19] (fun v i wr => ∃ k : Nat, k ≤ m ∧ i = .int .i64 k ∧ v = .int .u8 (rd f l1 k) ∧ ∃ n, wr = w1.drewN n) (fun _ i _ => m - (intOf i).toNat)
    case atStart => exact ⟨0, Nat.zero_le _, rfl, rfl, _, rfl⟩
    case round =>
      obtain ⟨k, hk, rfl, rfl, n, rfl⟩ := hrel
      by_cases hlt : k < m
      · first
          | (exfalso; omega)
          | (have hc := HC0.out (k + 1) (by have := HM.out; omega)
             have ea : ad.add (k + 1) = ⟨ad.block, ad.off + 1 + k, none⟩ := by unfold Addr.add; rw [if_neg (by omega)]; first | (simp; done) | (simp; omega)
             rw [ea] at hc
             clear ea
             have hcall := hide (HO.out.ct (rd f l1 k) (qt l1 (k + 1)) (w1.drewN n) (hr1.out k).1 (HG1.out.bd _).1 (HT1.out.drewN n))
             go_wp2_with ((with_reducible refine (hcall.out).mono ?_); rintro e w' ⟨rfl, n2, rfl⟩)
             go_roundw
             case rel => exact ⟨k + 1, by omega, by go_num, rfl, _, rfl⟩
             case measure => simp [intOf]; omega)
      · have e : k = m := by omega
        subst e
        go_wp2
        go_ret
        exact ⟨by rw [E2.out]; rfl, by (repeat (first | with_reducible exact Below.refl _ _ | with_reducible assumption | with_reducible refine Below.setCell ?_ (by first | (simp; done) | omega | (simp; omega)) _ | with_reducible refine Below.alloc ?_ (by first | (simp; done) | omega | (simp; omega)) _ | with_reducible refine below_drewN ?_ _ | with_reducible refine Below.drew ?_))⟩
theorem truth_any (A : Option Addr) (a : List Int) (c : Nat) (s : Bool) (w : World) (ha : a.length ≤ 4096) (hca : Hid (a.length ≤ c ∧ c ≤ maxLen)) (hA : RQ w A a) (ya : By a) (ht : Tabs w) :
    Calls Tryd.prog 43 #[.agg #[.slice A a.length c, .bool s]] w (Mk (.int .u8 (tr ⟨a, s⟩)) w) := by
  have HA := hide hA
  have LA := hide ha
  have YA := hide ya
  clear hA ha ya
  have HT := hide ht
  clear ht
  go_enter Tryd.func43, Tryd.ntmps43
  go_wp2_with fail
  refine (reduce_any _ _ opF_or A a c s _ LA.out hca (HA.out.below (by (repeat (first | with_reducible exact Below.refl _ _ | with_reducible assumption | with_reducible refine Below.setCell ?_ (by first | (simp; done) | omega | (simp; omega)) _ | with_reducible refine Below.alloc ?_ (by first | (simp; done) | omega | (simp; omega)) _ | with_reducible refine below_drewN ?_ _ | with_reducible refine Below.drew ?_)))) YA.out (HT.out.kept (by (repeat (first | with_reducible exact Below.refl _ _ | with_reducible assumption | with_reducible refine Below.setCell ?_ (by first | (simp; done) | omega | (simp; omega)) _ | with_reducible refine Below.alloc ?_ (by first | (simp; done) | omega | (simp; omega)) _ | with_reducible refine below_drewN ?_ _ | with_reducible refine Below.drew ?_))))).mono ?_
  rintro e w1 ⟨rfl, hb⟩
  have hB1 : Below w.heap.size w w1 := Below.trans (by (repeat (first | with_reducible exact Below.refl _ _ | with_reducible assumption | with_reducible refine Below.setCell ?_ (by first | (simp; done) | omega | (simp; omega)) _ | with_reducible refine Below.alloc ?_ (by first | (simp; done) | omega | (simp; omega)) _ | with_reducible refine below_drewN ?_ _ | with_reducible refine Below.drew ?_))) (hb.mono (by first | omega | (simp; done) | (simp; omega)))
  obtain ⟨kc1, kf1⟩ := bcell hb
  have hz1 := hb.size
  (try simp at hz1)
  have n1_0 : w.heap.size < w1.heap.size := by omega
  clear hb
  go_wp2
  go_ret
  exact ⟨rfl, by (repeat (first | with_reducible exact Below.refl _ _ | with_reducible assumption | with_reducible refine Below.setCell ?_ (by first | (simp; done) | omega | (simp; omega)) _ | with_reducible refine Below.alloc ?_ (by first | (simp; done) | omega | (simp; omega)) _ | with_reducible refine below_drewN ?_ _ | with_reducible refine Below.drew ?_))⟩
theorem vRedAnd_any (A : Option Addr) (a : List Int) (c : Nat) (s : Bool) (w : World) (ha : a.length ≤ 4096) (hca : Hid (a.length ≤ c ∧ c ≤ maxLen)) (hA : RQ w A a) (ya : By a) (ht : Tabs w) :
    Calls Tryd.prog 55 #[.agg #[.slice A a.length c, .bool s]] w (RetC (· = sgl (red mAnd ⟨a, s⟩)) w) := by
  have HA := hide hA
  have LA := hide ha
  have YA := hide ya
  clear hA ha ya
  have HT := hide ht
  clear ht
  go_enter Tryd.func55, Tryd.ntmps55
  go_wp2_with fail
  refine (reduce_any _ _ opF_and A a c s _ LA.out hca (HA.out.below (by (repeat (first | with_reducible exact Below.refl _ _ | with_reducible assumption | with_reducible refine Below.setCell ?_ (by first | (simp; done) | omega | (simp; omega)) _ | with_reducible refine Below.alloc ?_ (by first | (simp; done) | omega | (simp; omega)) _ | with_reducible refine below_drewN ?_ _ | with_reducible refine Below.drew ?_)))) YA.out (HT.out.kept (by (repeat (first | with_reducible exact Below.refl _ _ | with_reducible assumption | with_reducible refine Below.setCell ?_ (by first | (simp; done) | omega | (simp; omega)) _ | with_reducible refine Below.alloc ?_ (by first | (simp; done) | omega | (simp; omega)) _ | with_reducible refine below_drewN ?_ _ | with_reducible refine Below.drew ?_))))).mono ?_
  rintro e w1 ⟨rfl, hb⟩
  have hB1 : Below w.heap.size w w1 := Below.trans (by (repeat (first | with_reducible exact Below.refl _ _ | with_reducible assumption | with_reducible refine Below.setCell ?_ (by first | (simp; done) | omega | (simp; omega)) _ | with_reducible refine Below.alloc ?_ (by first | (simp; done) | omega | (simp; omega)) _ | with_reducible refine below_drewN ?_ _ | with_reducible refine Below.drew ?_))) (hb.mono (by first | omega | (simp; done) | (simp; omega)))
  obtain ⟨kc1, kf1⟩ := bcell hb
  have hz1 := hb.size
  (try simp at hz1)
  have n1_0 : w.heap.size < w1.heap.size := by omega
  have n1_1 : w.heap.size + 1 < w1.heap.size := by omega
  have r1_0 : w1.cell? ⟨w.heap.size + 1, 0, none⟩ = some (.slice none 0 0) := (kc1 _ _ (by first | assumption | (simp; done) | omega | (simp; omega))).trans (by first | assumption | (simp; done))
  have g1_0 : w1.frozen? ⟨w.heap.size + 1, 0, none⟩ = false := (kf1 _ _ (by first | assumption | (simp; done) | omega | (simp; omega))).trans (by first | assumption | (simp; done))
  have r1_1 : w1.cell? ⟨w.heap.size + 1, 1, none⟩ = some (.bool false) := (kc1 _ _ (by first | assumption | (simp; done) | omega | (simp; omega))).trans (by first | assumption | (simp; done))
  have g1_1 : w1.frozen? ⟨w.heap.size + 1, 1, none⟩ = false := (kf1 _ _ (by first | assumption | (simp; done) | omega | (simp; omega))).trans (by first | assumption | (simp; done))
  clear hb
  go_wp2_with fail
  refine (single_any _ _).mono ?_
  rintro e w2 ⟨l1, s1, A1, c1, E1, rfl, C1, O1, hb⟩
  replace O1 := hide (O1.out.base (show w.heap.size + 2 ≤ _ by first | omega | (simp; omega) | (simp; done)))
  have hB2 : Below w.heap.size w w2 := Below.trans (by (repeat (first | with_reducible exact Below.refl _ _ | with_reducible assumption | with_reducible refine Below.setCell ?_ (by first | (simp; done) | omega | (simp; omega)) _ | with_reducible refine Below.alloc ?_ (by first | (simp; done) | omega | (simp; omega)) _ | with_reducible refine below_drewN ?_ _ | with_reducible refine Below.drew ?_))) (hb.mono (by first | omega | (simp; done) | (simp; omega)))
  obtain ⟨kc2, kf2⟩ := bcell hb
  have hz2 := hb.size
  (try simp at hz2)
  have n2_0 : w.heap.size < w2.heap.size := by omega
  have n2_1 : w.heap.size + 1 < w2.heap.size := by omega
  have r2_0 : w2.cell? ⟨w.heap.size + 1, 0, none⟩ = some (.slice none 0 0) := (kc2 _ _ (by first | assumption | (simp; done) | omega | (simp; omega))).trans (by first | assumption | (simp; done))
  have g2_0 : w2.frozen? ⟨w.heap.size + 1, 0, none⟩ = false := (kf2 _ _ (by first | assumption | (simp; done) | omega | (simp; omega))).trans (by first | assumption | (simp; done))
  have r2_1 : w2.cell? ⟨w.heap.size + 1, 1, none⟩ = some (.bool false) := (kc2 _ _ (by first | assumption | (simp; done) | omega | (simp; omega))).trans (by first | assumption | (simp; done))
  have g2_1 : w2.frozen? ⟨w.heap.size + 1, 1, none⟩ = false := (kf2 _ _ (by first | assumption | (simp; done) | omega | (simp; omega))).trans (by first | assumption | (simp; done))
  clear hb
  go_wp2
  refine bodyPost_ret (v := .agg #[.slice A1 l1.length c1, .bool s1]) (by simp [results, Tryd.results55, go_sem, *]) rfl ?_
  exact ⟨l1, s1, A1, c1, hide (E1.out), rfl, C1, hide (OwQ.base (B := w.heap.size + 2) (by (repeat (first | with_reducible exact O1.out | with_reducible refine OwQ.far ?_ (by first | (simp; done) | omega | (simp; omega)) _ | with_reducible refine OwQ.allc ?_ _ | with_reducible refine OwQ.drew ?_ | with_reducible refine OwQ.drewN ?_ _))) (by omega)), by (repeat (first | with_reducible exact Below.refl _ _ | with_reducible assumption | with_reducible refine Below.setCell ?_ (by first | (simp; done) | omega | (simp; omega)) _ | with_reducible refine Below.alloc ?_ (by first | (simp; done) | omega | (simp; omega)) _ | with_reducible refine below_drewN ?_ _ | with_reducible refine Below.drew ?_))⟩
theorem by_of_gd {v : Vc} {l : List Int} {s : Bool} (e : (⟨l, s⟩ : Vc) = v) (h : Gd v.b) : By l := by rw [← e] at h; exact h.by_
theorem len_of_gd {v : Vc} {l : List Int} {s : Bool} (e : (⟨l, s⟩ : Vc) = v) (h : Gd v.b) : 0 < l.length ∧ l.length ≤ 128 := by rw [← e] at h; exact ⟨h.pos, h.le⟩
theorem gd_sgl {x : Int} (h : 0 ≤ x ∧ x ≤ 3) : Gd (sgl x).b := by
  refine ⟨by simp [sgl], by simp [sgl], fun i => ?_⟩
  rcases i with _ | i
  · exact h
  · have e : qt [x] (i + 1) = 0 := qt_ge (by simp)
    show 0 ≤ qt [x] (i + 1) ∧ qt [x] (i + 1) ≤ 3
    omega
theorem vNot_sgl {x : Int} (h : 0 ≤ x ∧ x ≤ 3) : vNot (sgl x) = sgl (mNot x) := by
  unfold vNot
  rw [cnt_of_gd (gd_sgl h)]
  rfl
end
section
open Go.RowKit
set_option maxRecDepth 100000
set_option linter.unusedSimpArgs false
set_option linter.unusedVariables false
/-- The answer of an operation that may fail: its error and its number. -/
def Res (r : Option (List Bool)) (E : Int) (l : List Bool) : Prop := match r with | some v => E = 0 ∧ l = v | none => E ≠ 0
/-- What an operation on numbers leaves: an answer, or none and an error. -/
def RetO (r : Option (List Bool)) (w : World) (e : Ending) (w' : World) : Prop :=
  ∃ l A c E, e = .returned (.tuple #[.slice A l.length c, .int .i64 E]) ∧ Hid (Res r E l) ∧ Hid (Rd w' A l) ∧ Below w.heap.size w w'
/-- A function value on two numbers of one width. -/
structure OpN (N : Nat) (f : List Bool → List Bool → Bool → Option (List Bool)) (x : Array Value) (w0 : World) : Prop where
  cf : Ent N
  ct : ∀ A B m n c d s w, Below w0.heap.size w0 w → m.length ≤ 4096 → n.length ≤ 4096 → Rd w A m → Rd w B n → Calls Tryd.prog N (#[.slice A m.length c, .slice B n.length d, .bool s] ++ x) w (RetO (f m n s) w)
/-- A plain function on two numbers. -/
structure OpB (N : Nat) (f : List Bool → List Bool → List Bool) : Prop where
  cf : Ent N
  ct : ∀ A B m n c d w, m.length ≤ 4096 → n.length ≤ 4096 → Rd w A m → Rd w B n → Calls Tryd.prog N #[.slice A m.length c, .slice B n.length d] w (MkV (f m n) w)
theorem opB_add : OpB 61 (fun m n => vz m.length ((nv m : Int) + nv n)) := ⟨Tryd.call61, fun A B m n c d w h1 h2 h3 h4 => add_any A B m n c d w h1 h2 h3 h4⟩
theorem total_any (N : Nat) (w : World) : Calls Tryd.prog 60 #[.func (.func N) #[] #[]] w fun e w' => e = .returned (.func (.func 83) #[] #[.pointer (some ⟨w.heap.size, 0, none⟩)]) ∧ w' = w.alloc (.cells #[.func (.func N) #[] #[]] 73) := by
  go_enter Tryd.func60, Tryd.ntmps60
  go_wp2
  go_ret
  exact ⟨rfl, rfl⟩
/-- A closure of total, its operation in a cell of its own. -/
theorem opN_total {N : Nat} {f : List Bool → List Bool → List Bool} (hop : OpB N f) {g : Nat} {w0 : World} (hg : g < w0.heap.size) (hc : w0.cell? ⟨g, 0, none⟩ = some (.func (.func N) #[] #[])) : OpN 83 (fun m n _ => some (f m n)) #[.pointer (some ⟨g, 0, none⟩)] w0 := by
  refine ⟨Tryd.call83, fun A B m n c d s w hB h1 h2 h3 h4 => ?_⟩
  show Calls _ _ #[.slice A m.length c, .slice B n.length d, .bool s, .pointer (some ⟨g, 0, none⟩)] _ _
  have hcf : ∀ args w, (callFunc N args).run Tryd.prog w = .ok (.enter N args) w := hop.cf
  have hc1 : w.cell? ⟨g, 0, none⟩ = some (.func (.func N) #[] #[]) := (hB.cell (p := ⟨g, 0, none⟩) hg).trans hc
  have hcall := hide (hop.ct A B m n c d w h1 h2 h3 h4)
  clear hop hB h3 h4 hc
  go_enter Tryd.func83, Tryd.ntmps83
  go_wp2_with ((with_reducible refine (hcall.out).mono ?_); rintro e w1 ⟨R, rc, rfl, k1, k2, ho, hb⟩; have K1 := hide k1; have K2 := hide k2; clear k1 k2)
  go_ret2
  exact ⟨f m n, R, rc, 0, rfl, hide ⟨rfl, rfl⟩, hide ho.rd, hb⟩
theorem nv_pos_of {n : List Bool} (h : ¬ nv n = 0) : 0 < nv n := by omega
/-- divide: both results, or an error. -/
def RetDv (q r : Option (List Bool)) (w : World) (e : Ending) (w' : World) : Prop :=
  ∃ l A c m B d E, e = .returned (.tuple #[.slice A l.length c, .slice B m.length d, .int .i64 E]) ∧ Hid (Res q E l) ∧ Hid (Res r E m) ∧ Hid (Rd w' A l) ∧ Hid (Rd w' B m) ∧ Below w.heap.size w w'
theorem divide_any' (A B : Option Addr) (m n : List Bool) (c d : Nat) (s : Bool) (w : World) (h1 : m.length ≤ 4096) (h2 : n.length ≤ 4096) (h3 : Rd w A m) (h4 : Rd w B n) :
    Calls Tryd.prog 67 #[.slice A m.length c, .slice B n.length d, .bool s] w (RetDv (fDiv m n s) (fMod m n s) w) := by
  have H3 := hide h3
  have H4 := hide h4
  clear h3 h4
  by_cases hz : nv n = 0
  · have e1 : fDiv m n s = none := by unfold fDiv; rw [if_pos hz]
    have e2 : fMod m n s = none := by unfold fMod; rw [if_pos hz]
    rw [e1, e2]
    have HZ := hide hz
    clear hz e1 e2
    cases s
    · go_enter Tryd.func67, Tryd.ntmps67
      go_wp2_with (go_at_call 90; (with_reducible refine (div_zero A B m n c d _ h1 h2 H4.out HZ.out).mono ?_); rintro e w' ⟨rfl, rfl⟩)
      go_ret3
      exact ⟨[], none, 0, [], none, 0, 7, rfl, hide (show (7 : Int) ≠ 0 by decide), hide (show (7 : Int) ≠ 0 by decide), hide (fun h => absurd h (by simp)), hide (fun h => absurd h (by simp)), Below.refl _ _⟩
    · go_enter Tryd.func67, Tryd.ntmps67
      go_wp2_with (go_at_call 89; (with_reducible refine (sdiv_zero A B m n c d _ h1 h2 H3.out H4.out HZ.out).mono ?_); rintro e w' ⟨rfl, hb⟩)
      go_ret3
      exact ⟨[], none, 0, [], none, 0, 7, rfl, hide (show (7 : Int) ≠ 0 by decide), hide (show (7 : Int) ≠ 0 by decide), hide (fun h => absurd h (by simp)), hide (fun h => absurd h (by simp)), hb⟩
  · have e1 : fDiv m n s = some (vz m.length (if s then (sv m).tdiv (sv n) else ((nv m / nv n : Nat) : Int))) := by unfold fDiv; rw [if_neg hz]
    have e2 : fMod m n s = some (vz m.length (if s then (sv m).tmod (sv n) else ((nv m % nv n : Nat) : Int))) := by unfold fMod; rw [if_neg hz]
    rw [e1, e2]
    have HZ := hide (nv_pos_of hz)
    clear hz e1 e2
    cases s
    · have hcall := hide (div_any A B m n c d w h1 h2 H3.out H4.out HZ.out)
      go_enter Tryd.func67, Tryd.ntmps67
      go_wp2_with (go_at_call 90; (with_reducible refine (hcall.out).mono ?_); rintro e w' ⟨Q, qc, R, rc, rfl, k1, k2, k3, k4, oq, or_, hb⟩; have OQ := hide oq; have OR := hide or_; have K1 := hide k1; have K2 := hide k3; clear oq or_ k1 k2 k3 k4)
      go_ret3
      exact ⟨_, Q, qc, _, R, rc, 0, rfl, hide ⟨rfl, by simp⟩, hide ⟨rfl, by simp⟩, hide OQ.out.rd, hide OR.out.rd, hb⟩
    · have hcall := hide (sdiv_any A B m n c d w h1 h2 H3.out H4.out HZ.out)
      go_enter Tryd.func67, Tryd.ntmps67
      go_wp2_with (go_at_call 89; (with_reducible refine (hcall.out).mono ?_); rintro e w' ⟨Q, qc, R, rc, rfl, k1, k2, k3, k4, oq, or_, hb⟩; have OQ := hide oq; have OR := hide or_; have K1 := hide k1; have K2 := hide k3; clear oq or_ k1 k2 k3 k4)
      go_ret3
      exact ⟨_, Q, qc, _, R, rc, 0, rfl, hide ⟨rfl, by simp⟩, hide ⟨rfl, by simp⟩, hide OQ.out.rd, hide OR.out.rd, hb⟩
theorem opN_div (w0 : World) : OpN 66 fDiv #[] w0 := by
  refine ⟨Tryd.call66, fun A B m n c d s w hB h1 h2 h3 h4 => ?_⟩
  show Calls _ _ #[.slice A m.length c, .slice B n.length d, .bool s] _ _
  have hcall := hide (divide_any' A B m n c d s w h1 h2 h3 h4)
  clear hB h3 h4
  go_enter Tryd.func66, Tryd.ntmps66
  go_wp2_with (go_at_call 67; (with_reducible refine (hcall.out).mono ?_); rintro e w1 ⟨l, A2, c2, m2, B2, d2, E, rfl, h5, -, h6, -, hb⟩)
  go_ret2
  exact ⟨l, A2, c2, E, rfl, h5, h6, hb⟩
end
section
open Go.RowKit
set_option maxRecDepth 100000
set_option linter.unusedSimpArgs false
set_option linter.unusedVariables false
theorem number_q (A : Option Addr) (a : List Int) (c : Nat) (w : World) (ha : a.length ≤ 4096) (hA : RQ w A a) :
    Calls Tryd.prog 39 #[.slice A a.length c] w (RetP (· = nb a) w) := (number_any A a c w ha hA).mono fun _ _ h => RetP.of_mkV rfl h
set_option maxHeartbeats 2000000 in
theorem arith0_any (N : Nat) (f : List Bool → List Bool → Bool → Option (List Bool)) (A B : Option Addr) (a b : List Int) (c d : Nat) (s t : Bool) (w : World) (ha : a.length ≤ 4096) (hb : b.length ≤ 4096) (hca : Hid (a.length ≤ c ∧ c ≤ maxLen)) (hcb : Hid (b.length ≤ d ∧ d ≤ maxLen)) (hA : RQ w A a) (hB : RQ w B b) (ya : By a) (yb : By b) (hop : OpN N f #[] w) (hlen : ∀ m n s l, f m n s = some l → l.length = m.length) :
    Calls Tryd.prog 59 #[.agg #[.slice A a.length c, .bool s], .agg #[.slice B b.length d, .bool t], .func (.func N) #[] #[]] w (RetC (· = ar f ⟨a, s⟩ ⟨b, t⟩) w) := by
  have hcf : ∀ args w, (callFunc N args).run Tryd.prog w = .ok (.enter N args) w := hop.cf
  have hct := hide (fun A B m n c d s W hW h1 h2 h3 h4 => (show Calls Tryd.prog N #[.slice A m.length c, .slice B n.length d, .bool s] W (RetO (f m n s) W) from hop.ct A B m n c d s W hW h1 h2 h3 h4))
  have HL := hide hlen
  have hwd := wd_bd (a := ⟨a, s⟩) (b := ⟨b, t⟩) ya yb
  have HA := hide hA
  have HBB := hide hB
  have LA := hide ha
  have LB := hide hb
  have YA := hide ya
  have YB := hide yb
  clear hA hB ha hb ya yb
  clear hop hlen
  obtain ⟨n, hn⟩ : ∃ n, n = wd ⟨a, s⟩ ⟨b, t⟩ := ⟨_, rfl⟩
  have hcall := hide fun W (hW : Below w.heap.size w W) => balance_any A B a b c d s t W LA.out LB.out hca hcb (HA.out.below hW) (HBB.out.below hW) YA.out YB.out
  unfold RetB at hcall
  obtain ⟨σ, hσ⟩ : ∃ σ, σ = sg ⟨a, s⟩ ⟨b, t⟩ := ⟨_, rfl⟩
  rw [← hσ] at hcall
  obtain ⟨R, hR⟩ : ∃ R, R = ar f ⟨a, s⟩ ⟨b, t⟩ := ⟨_, rfl⟩
  rw [← hR]
  unfold ar at hR
  rw [← hn, ← hσ] at hR
  rw [← hn] at hwd
  have HN := hide hn
  have HR := hide hR
  clear hn hσ hR
  go_enter Tryd.func59, Tryd.ntmps59
  go_wp2_with fail
  refine (hcall.out _ (by (repeat (first | with_reducible exact Below.refl _ _ | with_reducible assumption | with_reducible refine Below.setCell ?_ (by first | (simp; done) | omega | (simp; omega)) _ | with_reducible refine Below.alloc ?_ (by first | (simp; done) | omega | (simp; omega)) _ | with_reducible refine below_drewN ?_ _ | with_reducible refine Below.drew ?_)))).mono ?_
  rintro e w1 ⟨p, P, pc, q, Q, qc, Ep, Eq, rfl, Cp, Cq, Op, Oq, -, hb⟩
  replace Op := hide (Op.out.base (show w.heap.size + 3 ≤ _ by first | omega | (simp; omega) | (simp; done)))
  replace Oq := hide (Oq.out.base (show w.heap.size + 3 ≤ _ by first | omega | (simp; omega) | (simp; done)))
  have hB1 : Below w.heap.size w w1 := Below.trans (by (repeat (first | with_reducible exact Below.refl _ _ | with_reducible assumption | with_reducible refine Below.setCell ?_ (by first | (simp; done) | omega | (simp; omega)) _ | with_reducible refine Below.alloc ?_ (by first | (simp; done) | omega | (simp; omega)) _ | with_reducible refine below_drewN ?_ _ | with_reducible refine Below.drew ?_))) (hb.mono (by first | omega | (simp; done) | (simp; omega)))
  obtain ⟨kc1, kf1⟩ := bcell hb
  have hz1 := hb.size
  (try simp at hz1)
  have n1_0 : w.heap.size < w1.heap.size := by omega
  have n1_1 : w.heap.size + 1 < w1.heap.size := by omega
  have n1_2 : w.heap.size + 2 < w1.heap.size := by omega
  have r1_0 : w1.cell? ⟨w.heap.size + 2, 0, none⟩ = some (.slice none 0 0) := (kc1 _ _ (by first | assumption | (simp; done) | omega | (simp; omega))).trans (by first | assumption | (simp [go_sem]; done) | (simp; done))
  have g1_0 : w1.frozen? ⟨w.heap.size + 2, 0, none⟩ = false := (kf1 _ _ (by first | assumption | (simp; done) | omega | (simp; omega))).trans (by first | assumption | (simp [go_sem]; done) | (simp; done))
  have r1_1 : w1.cell? ⟨w.heap.size + 2, 1, none⟩ = some (.bool false) := (kc1 _ _ (by first | assumption | (simp; done) | omega | (simp; omega))).trans (by first | assumption | (simp [go_sem]; done) | (simp; done))
  have g1_1 : w1.frozen? ⟨w.heap.size + 2, 1, none⟩ = false := (kf1 _ _ (by first | assumption | (simp; done) | omega | (simp; omega))).trans (by first | assumption | (simp [go_sem]; done) | (simp; done))
  clear hb
  have lp : p.length = n := by rw [Ep.out, blA_length, HN.out]
  have lq : q.length = n := by rw [Eq.out, blB_length, HN.out]
  rw [← Ep.out, ← Eq.out] at HR
  have LP := hide lp
  have LQ := hide lq
  have L1 : p.length ≤ 4096 := by omega
  have L2 : q.length ≤ 4096 := by omega
  have L3 : 0 < p.length := by omega
  clear lp lq
  have k1 := hide (known_any P p pc w1 L1 Op.out.rd)
  have k2 := hide (known_any Q q qc w1 L2 Oq.out.rd)
  cases hk1 : kn p
  · rw [hk1] at k1 HR
    have hk := hk1
    clear hk1
    go_wp2_with fail
    refine (k1.out).mono ?_
    rintro e w' ⟨rfl, rfl⟩
    go_wp2_with fail
    refine (unknown_any p.length σ _ L3 L1).mono ?_
    rintro e w2 ⟨l1, s1, A1, c1, E1, rfl, C1, O1, hb⟩
    replace Op := hide ((show OwQ (w.heap.size + 3) _ _ _ by (repeat (first | with_reducible exact Op.out | with_reducible refine OwQ.far ?_ (by first | (simp; done) | omega | (simp; omega)) _ | with_reducible refine OwQ.allc ?_ _ | with_reducible refine OwQ.drew ?_ | with_reducible refine OwQ.drewN ?_ _))).kept hb)
    replace Oq := hide ((show OwQ (w.heap.size + 3) _ _ _ by (repeat (first | with_reducible exact Oq.out | with_reducible refine OwQ.far ?_ (by first | (simp; done) | omega | (simp; omega)) _ | with_reducible refine OwQ.allc ?_ _ | with_reducible refine OwQ.drew ?_ | with_reducible refine OwQ.drewN ?_ _))).kept hb)
    replace O1 := hide (O1.out.base (show w.heap.size + 3 ≤ _ by first | omega | (simp; omega) | (simp; done)))
    have hB2 : Below w.heap.size w w2 := Below.trans (by (repeat (first | with_reducible exact Below.refl _ _ | with_reducible assumption | with_reducible refine Below.setCell ?_ (by first | (simp; done) | omega | (simp; omega)) _ | with_reducible refine Below.alloc ?_ (by first | (simp; done) | omega | (simp; omega)) _ | with_reducible refine below_drewN ?_ _ | with_reducible refine Below.drew ?_))) (hb.mono (by first | omega | (simp; done) | (simp; omega)))
    obtain ⟨kc2, kf2⟩ := bcell hb
    have hz2 := hb.size
    (try simp at hz2)
    have n2_0 : w.heap.size < w2.heap.size := by omega
    have n2_1 : w.heap.size + 1 < w2.heap.size := by omega
    have n2_2 : w.heap.size + 2 < w2.heap.size := by omega
    have r2_0 : w2.cell? ⟨w.heap.size + 2, 0, none⟩ = some (.slice none 0 0) := (kc2 _ _ (by first | assumption | (simp; done) | omega | (simp; omega))).trans (by first | assumption | (simp [go_sem]; done) | (simp; done))
    have g2_0 : w2.frozen? ⟨w.heap.size + 2, 0, none⟩ = false := (kf2 _ _ (by first | assumption | (simp; done) | omega | (simp; omega))).trans (by first | assumption | (simp [go_sem]; done) | (simp; done))
    have r2_1 : w2.cell? ⟨w.heap.size + 2, 1, none⟩ = some (.bool false) := (kc2 _ _ (by first | assumption | (simp; done) | omega | (simp; omega))).trans (by first | assumption | (simp [go_sem]; done) | (simp; done))
    have g2_1 : w2.frozen? ⟨w.heap.size + 2, 1, none⟩ = false := (kf2 _ _ (by first | assumption | (simp; done) | omega | (simp; omega))).trans (by first | assumption | (simp [go_sem]; done) | (simp; done))
    clear hb
    go_wp2
    refine bodyPost_ret (v := .agg #[.slice A1 l1.length c1, .bool s1]) (by simp [results, Tryd.results59, go_sem, *]) rfl ?_
    exact ⟨l1, s1, A1, c1, hide (E1.out.trans (by rw [HR.out, LP.out]; simp)), rfl, C1, hide (OwQ.base (B := w.heap.size + 3) (by (repeat (first | with_reducible exact O1.out | with_reducible refine OwQ.far ?_ (by first | (simp; done) | omega | (simp; omega)) _ | with_reducible refine OwQ.allc ?_ _ | with_reducible refine OwQ.drew ?_ | with_reducible refine OwQ.drewN ?_ _))) (by omega)), by (repeat (first | with_reducible exact Below.refl _ _ | with_reducible assumption | with_reducible refine Below.setCell ?_ (by first | (simp; done) | omega | (simp; omega)) _ | with_reducible refine Below.alloc ?_ (by first | (simp; done) | omega | (simp; omega)) _ | with_reducible refine below_drewN ?_ _ | with_reducible refine Below.drew ?_))⟩
  · cases hk2 : kn q
    · rw [hk1] at k1 HR
      rw [hk2] at k2 HR
      clear hk1 hk2
      go_wp2_with fail
      refine (k1.out).mono ?_
      rintro e w' ⟨rfl, rfl⟩
      go_wp2_with fail
      refine (k2.out).mono ?_
      rintro e w' ⟨rfl, rfl⟩
      go_wp2_with fail
      refine (unknown_any p.length σ _ L3 L1).mono ?_
      rintro e w2 ⟨l1, s1, A1, c1, E1, rfl, C1, O1, hb⟩
      replace Op := hide ((show OwQ (w.heap.size + 3) _ _ _ by (repeat (first | with_reducible exact Op.out | with_reducible refine OwQ.far ?_ (by first | (simp; done) | omega | (simp; omega)) _ | with_reducible refine OwQ.allc ?_ _ | with_reducible refine OwQ.drew ?_ | with_reducible refine OwQ.drewN ?_ _))).kept hb)
      replace Oq := hide ((show OwQ (w.heap.size + 3) _ _ _ by (repeat (first | with_reducible exact Oq.out | with_reducible refine OwQ.far ?_ (by first | (simp; done) | omega | (simp; omega)) _ | with_reducible refine OwQ.allc ?_ _ | with_reducible refine OwQ.drew ?_ | with_reducible refine OwQ.drewN ?_ _))).kept hb)
      replace O1 := hide (O1.out.base (show w.heap.size + 3 ≤ _ by first | omega | (simp; omega) | (simp; done)))
      have hB2 : Below w.heap.size w w2 := Below.trans (by (repeat (first | with_reducible exact Below.refl _ _ | with_reducible assumption | with_reducible refine Below.setCell ?_ (by first | (simp; done) | omega | (simp; omega)) _ | with_reducible refine Below.alloc ?_ (by first | (simp; done) | omega | (simp; omega)) _ | with_reducible refine below_drewN ?_ _ | with_reducible refine Below.drew ?_))) (hb.mono (by first | omega | (simp; done) | (simp; omega)))
      obtain ⟨kc2, kf2⟩ := bcell hb
      have hz2 := hb.size
      (try simp at hz2)
      have n2_0 : w.heap.size < w2.heap.size := by omega
      have n2_1 : w.heap.size + 1 < w2.heap.size := by omega
      have n2_2 : w.heap.size + 2 < w2.heap.size := by omega
      have r2_0 : w2.cell? ⟨w.heap.size + 2, 0, none⟩ = some (.slice none 0 0) := (kc2 _ _ (by first | assumption | (simp; done) | omega | (simp; omega))).trans (by first | assumption | (simp [go_sem]; done) | (simp; done))
      have g2_0 : w2.frozen? ⟨w.heap.size + 2, 0, none⟩ = false := (kf2 _ _ (by first | assumption | (simp; done) | omega | (simp; omega))).trans (by first | assumption | (simp [go_sem]; done) | (simp; done))
      have r2_1 : w2.cell? ⟨w.heap.size + 2, 1, none⟩ = some (.bool false) := (kc2 _ _ (by first | assumption | (simp; done) | omega | (simp; omega))).trans (by first | assumption | (simp [go_sem]; done) | (simp; done))
      have g2_1 : w2.frozen? ⟨w.heap.size + 2, 1, none⟩ = false := (kf2 _ _ (by first | assumption | (simp; done) | omega | (simp; omega))).trans (by first | assumption | (simp [go_sem]; done) | (simp; done))
      clear hb
      go_wp2
      refine bodyPost_ret (v := .agg #[.slice A1 l1.length c1, .bool s1]) (by simp [results, Tryd.results59, go_sem, *]) rfl ?_
      exact ⟨l1, s1, A1, c1, hide (E1.out.trans (by rw [HR.out, LP.out]; simp)), rfl, C1, hide (OwQ.base (B := w.heap.size + 3) (by (repeat (first | with_reducible exact O1.out | with_reducible refine OwQ.far ?_ (by first | (simp; done) | omega | (simp; omega)) _ | with_reducible refine OwQ.allc ?_ _ | with_reducible refine OwQ.drew ?_ | with_reducible refine OwQ.drewN ?_ _))) (by omega)), by (repeat (first | with_reducible exact Below.refl _ _ | with_reducible assumption | with_reducible refine Below.setCell ?_ (by first | (simp; done) | omega | (simp; omega)) _ | with_reducible refine Below.alloc ?_ (by first | (simp; done) | omega | (simp; omega)) _ | with_reducible refine below_drewN ?_ _ | with_reducible refine Below.drew ?_))⟩
    · rw [hk1] at k1 HR
      rw [hk2] at k2 HR
      clear hk1 hk2
      go_wp2_with fail
      refine (k1.out).mono ?_
      rintro e w' ⟨rfl, rfl⟩
      go_wp2_with fail
      refine (k2.out).mono ?_
      rintro e w' ⟨rfl, rfl⟩
      go_wp2_with fail
      refine (number_q P p pc _ L1 Op.out.rd).mono ?_
      rintro e w2 ⟨lm, Am, cm, Em, rfl, Cm, Om, hb⟩
      replace Op := hide ((show OwQ (w.heap.size + 3) _ _ _ by (repeat (first | with_reducible exact Op.out | with_reducible refine OwQ.far ?_ (by first | (simp; done) | omega | (simp; omega)) _ | with_reducible refine OwQ.allc ?_ _ | with_reducible refine OwQ.drew ?_ | with_reducible refine OwQ.drewN ?_ _))).kept hb)
      replace Oq := hide ((show OwQ (w.heap.size + 3) _ _ _ by (repeat (first | with_reducible exact Oq.out | with_reducible refine OwQ.far ?_ (by first | (simp; done) | omega | (simp; omega)) _ | with_reducible refine OwQ.allc ?_ _ | with_reducible refine OwQ.drew ?_ | with_reducible refine OwQ.drewN ?_ _))).kept hb)
      replace Om := hide Om.out.rd
      have hB2 : Below w.heap.size w w2 := Below.trans (by (repeat (first | with_reducible exact Below.refl _ _ | with_reducible assumption | with_reducible refine Below.setCell ?_ (by first | (simp; done) | omega | (simp; omega)) _ | with_reducible refine Below.alloc ?_ (by first | (simp; done) | omega | (simp; omega)) _ | with_reducible refine below_drewN ?_ _ | with_reducible refine Below.drew ?_))) (hb.mono (by first | omega | (simp; done) | (simp; omega)))
      obtain ⟨kc2, kf2⟩ := bcell hb
      have hz2 := hb.size
      (try simp at hz2)
      have n2_0 : w.heap.size < w2.heap.size := by omega
      have n2_1 : w.heap.size + 1 < w2.heap.size := by omega
      have n2_2 : w.heap.size + 2 < w2.heap.size := by omega
      have r2_0 : w2.cell? ⟨w.heap.size + 2, 0, none⟩ = some (.slice none 0 0) := (kc2 _ _ (by first | assumption | (simp; done) | omega | (simp; omega))).trans (by first | assumption | (simp [go_sem]; done) | (simp; done))
      have g2_0 : w2.frozen? ⟨w.heap.size + 2, 0, none⟩ = false := (kf2 _ _ (by first | assumption | (simp; done) | omega | (simp; omega))).trans (by first | assumption | (simp [go_sem]; done) | (simp; done))
      have r2_1 : w2.cell? ⟨w.heap.size + 2, 1, none⟩ = some (.bool false) := (kc2 _ _ (by first | assumption | (simp; done) | omega | (simp; omega))).trans (by first | assumption | (simp [go_sem]; done) | (simp; done))
      have g2_1 : w2.frozen? ⟨w.heap.size + 2, 1, none⟩ = false := (kf2 _ _ (by first | assumption | (simp; done) | omega | (simp; omega))).trans (by first | assumption | (simp [go_sem]; done) | (simp; done))
      clear hb
      go_wp2_with fail
      refine (number_q Q q qc _ L2 Oq.out.rd).mono ?_
      rintro e w3 ⟨lk, Ak, ck, Ek, rfl, Ck, Ok, hb⟩
      replace Op := hide ((show OwQ (w.heap.size + 3) _ _ _ by (repeat (first | with_reducible exact Op.out | with_reducible refine OwQ.far ?_ (by first | (simp; done) | omega | (simp; omega)) _ | with_reducible refine OwQ.allc ?_ _ | with_reducible refine OwQ.drew ?_ | with_reducible refine OwQ.drewN ?_ _))).kept hb)
      replace Oq := hide ((show OwQ (w.heap.size + 3) _ _ _ by (repeat (first | with_reducible exact Oq.out | with_reducible refine OwQ.far ?_ (by first | (simp; done) | omega | (simp; omega)) _ | with_reducible refine OwQ.allc ?_ _ | with_reducible refine OwQ.drew ?_ | with_reducible refine OwQ.drewN ?_ _))).kept hb)
      replace Om := hide (Om.out.below hb)
      replace Ok := hide Ok.out.rd
      have hB3 : Below w.heap.size w w3 := Below.trans (by (repeat (first | with_reducible exact Below.refl _ _ | with_reducible assumption | with_reducible refine Below.setCell ?_ (by first | (simp; done) | omega | (simp; omega)) _ | with_reducible refine Below.alloc ?_ (by first | (simp; done) | omega | (simp; omega)) _ | with_reducible refine below_drewN ?_ _ | with_reducible refine Below.drew ?_))) (hb.mono (by first | omega | (simp; done) | (simp; omega)))
      obtain ⟨kc3, kf3⟩ := bcell hb
      have hz3 := hb.size
      (try simp at hz3)
      have n3_0 : w.heap.size < w3.heap.size := by omega
      have n3_1 : w.heap.size + 1 < w3.heap.size := by omega
      have n3_2 : w.heap.size + 2 < w3.heap.size := by omega
      have r3_0 : w3.cell? ⟨w.heap.size + 2, 0, none⟩ = some (.slice none 0 0) := (kc3 _ _ (by first | assumption | (simp; done) | omega | (simp; omega))).trans (by first | assumption | (simp [go_sem]; done) | (simp; done))
      have g3_0 : w3.frozen? ⟨w.heap.size + 2, 0, none⟩ = false := (kf3 _ _ (by first | assumption | (simp; done) | omega | (simp; omega))).trans (by first | assumption | (simp [go_sem]; done) | (simp; done))
      have r3_1 : w3.cell? ⟨w.heap.size + 2, 1, none⟩ = some (.bool false) := (kc3 _ _ (by first | assumption | (simp; done) | omega | (simp; omega))).trans (by first | assumption | (simp [go_sem]; done) | (simp; done))
      have g3_1 : w3.frozen? ⟨w.heap.size + 2, 1, none⟩ = false := (kf3 _ _ (by first | assumption | (simp; done) | omega | (simp; omega))).trans (by first | assumption | (simp [go_sem]; done) | (simp; done))
      clear hb
      have em : lm.length = p.length := by rw [Em.out, nb_length]
      have ek : lk.length = q.length := by rw [Ek.out, nb_length]
      rw [← Em.out, ← Ek.out] at HR
      have EM := hide em
      have em2 : lm.length ≤ 4096 := by omega
      have ek2 : lk.length ≤ 4096 := by omega
      clear em ek
      go_wp2_with fail
      refine (hct.out Am Ak lm lk cm ck σ _ (by (repeat (first | with_reducible exact Below.refl _ _ | with_reducible assumption | with_reducible refine Below.setCell ?_ (by first | (simp; done) | omega | (simp; omega)) _ | with_reducible refine Below.alloc ?_ (by first | (simp; done) | omega | (simp; omega)) _ | with_reducible refine below_drewN ?_ _ | with_reducible refine Below.drew ?_))) em2 ek2 Om.out Ok.out).mono ?_
      rintro e w4 ⟨l0, A0, c0, E0, rfl, H0, O0, hb⟩
      replace Op := hide ((show OwQ (w.heap.size + 3) _ _ _ by (repeat (first | with_reducible exact Op.out | with_reducible refine OwQ.far ?_ (by first | (simp; done) | omega | (simp; omega)) _ | with_reducible refine OwQ.allc ?_ _ | with_reducible refine OwQ.drew ?_ | with_reducible refine OwQ.drewN ?_ _))).kept hb)
      replace Oq := hide ((show OwQ (w.heap.size + 3) _ _ _ by (repeat (first | with_reducible exact Oq.out | with_reducible refine OwQ.far ?_ (by first | (simp; done) | omega | (simp; omega)) _ | with_reducible refine OwQ.allc ?_ _ | with_reducible refine OwQ.drew ?_ | with_reducible refine OwQ.drewN ?_ _))).kept hb)
      replace Om := hide (Om.out.below hb)
      replace Ok := hide (Ok.out.below hb)
      have hB4 : Below w.heap.size w w4 := Below.trans (by (repeat (first | with_reducible exact Below.refl _ _ | with_reducible assumption | with_reducible refine Below.setCell ?_ (by first | (simp; done) | omega | (simp; omega)) _ | with_reducible refine Below.alloc ?_ (by first | (simp; done) | omega | (simp; omega)) _ | with_reducible refine below_drewN ?_ _ | with_reducible refine Below.drew ?_))) (hb.mono (by first | omega | (simp; done) | (simp; omega)))
      obtain ⟨kc4, kf4⟩ := bcell hb
      have hz4 := hb.size
      (try simp at hz4)
      have n4_0 : w.heap.size < w4.heap.size := by omega
      have n4_1 : w.heap.size + 1 < w4.heap.size := by omega
      have n4_2 : w.heap.size + 2 < w4.heap.size := by omega
      have r4_0 : w4.cell? ⟨w.heap.size + 2, 0, none⟩ = some (.slice none 0 0) := (kc4 _ _ (by first | assumption | (simp; done) | omega | (simp; omega))).trans (by first | assumption | (simp [go_sem]; done) | (simp; done))
      have g4_0 : w4.frozen? ⟨w.heap.size + 2, 0, none⟩ = false := (kf4 _ _ (by first | assumption | (simp; done) | omega | (simp; omega))).trans (by first | assumption | (simp [go_sem]; done) | (simp; done))
      have r4_1 : w4.cell? ⟨w.heap.size + 2, 1, none⟩ = some (.bool false) := (kc4 _ _ (by first | assumption | (simp; done) | omega | (simp; omega))).trans (by first | assumption | (simp [go_sem]; done) | (simp; done))
      have g4_1 : w4.frozen? ⟨w.heap.size + 2, 1, none⟩ = false := (kf4 _ _ (by first | assumption | (simp; done) | omega | (simp; omega))).trans (by first | assumption | (simp [go_sem]; done) | (simp; done))
      clear hb
      cases hf : f lm lk σ
      · rw [hf] at H0 HR
        have hne : E0 ≠ 0 := H0.out
        have hne2 : (E0 != 0) = true := by simpa using hne
        clear hf hne
        go_wp2_with fail
        refine (unknown_any p.length σ _ L3 L1).mono ?_
        rintro e w5 ⟨l1, s1, A1, c1, E1, rfl, C1, O1, hb⟩
        replace Op := hide ((show OwQ (w.heap.size + 3) _ _ _ by (repeat (first | with_reducible exact Op.out | with_reducible refine OwQ.far ?_ (by first | (simp; done) | omega | (simp; omega)) _ | with_reducible refine OwQ.allc ?_ _ | with_reducible refine OwQ.drew ?_ | with_reducible refine OwQ.drewN ?_ _))).kept hb)
        replace Oq := hide ((show OwQ (w.heap.size + 3) _ _ _ by (repeat (first | with_reducible exact Oq.out | with_reducible refine OwQ.far ?_ (by first | (simp; done) | omega | (simp; omega)) _ | with_reducible refine OwQ.allc ?_ _ | with_reducible refine OwQ.drew ?_ | with_reducible refine OwQ.drewN ?_ _))).kept hb)
        replace Om := hide (Om.out.below hb)
        replace Ok := hide (Ok.out.below hb)
        replace O1 := hide (O1.out.base (show w.heap.size + 3 ≤ _ by first | omega | (simp; omega) | (simp; done)))
        have hB5 : Below w.heap.size w w5 := Below.trans (by (repeat (first | with_reducible exact Below.refl _ _ | with_reducible assumption | with_reducible refine Below.setCell ?_ (by first | (simp; done) | omega | (simp; omega)) _ | with_reducible refine Below.alloc ?_ (by first | (simp; done) | omega | (simp; omega)) _ | with_reducible refine below_drewN ?_ _ | with_reducible refine Below.drew ?_))) (hb.mono (by first | omega | (simp; done) | (simp; omega)))
        obtain ⟨kc5, kf5⟩ := bcell hb
        have hz5 := hb.size
        (try simp at hz5)
        have n5_0 : w.heap.size < w5.heap.size := by omega
        have n5_1 : w.heap.size + 1 < w5.heap.size := by omega
        have n5_2 : w.heap.size + 2 < w5.heap.size := by omega
        have r5_0 : w5.cell? ⟨w.heap.size + 2, 0, none⟩ = some (.slice none 0 0) := (kc5 _ _ (by first | assumption | (simp; done) | omega | (simp; omega))).trans (by first | assumption | (simp [go_sem]; done) | (simp; done))
        have g5_0 : w5.frozen? ⟨w.heap.size + 2, 0, none⟩ = false := (kf5 _ _ (by first | assumption | (simp; done) | omega | (simp; omega))).trans (by first | assumption | (simp [go_sem]; done) | (simp; done))
        have r5_1 : w5.cell? ⟨w.heap.size + 2, 1, none⟩ = some (.bool false) := (kc5 _ _ (by first | assumption | (simp; done) | omega | (simp; omega))).trans (by first | assumption | (simp [go_sem]; done) | (simp; done))
        have g5_1 : w5.frozen? ⟨w.heap.size + 2, 1, none⟩ = false := (kf5 _ _ (by first | assumption | (simp; done) | omega | (simp; omega))).trans (by first | assumption | (simp [go_sem]; done) | (simp; done))
        clear hb
        go_wp2
        refine bodyPost_ret (v := .agg #[.slice A1 l1.length c1, .bool s1]) (by simp [results, Tryd.results59, go_sem, *]) rfl ?_
        exact ⟨l1, s1, A1, c1, hide (E1.out.trans (by rw [HR.out, LP.out]; simp)), rfl, C1, hide (OwQ.base (B := w.heap.size + 3) (by (repeat (first | with_reducible exact O1.out | with_reducible refine OwQ.far ?_ (by first | (simp; done) | omega | (simp; omega)) _ | with_reducible refine OwQ.allc ?_ _ | with_reducible refine OwQ.drew ?_ | with_reducible refine OwQ.drewN ?_ _))) (by omega)), by (repeat (first | with_reducible exact Below.refl _ _ | with_reducible assumption | with_reducible refine Below.setCell ?_ (by first | (simp; done) | omega | (simp; omega)) _ | with_reducible refine Below.alloc ?_ (by first | (simp; done) | omega | (simp; omega)) _ | with_reducible refine below_drewN ?_ _ | with_reducible refine Below.drew ?_))⟩
      · rename_i v
        rw [hf] at H0 HR
        obtain ⟨rfl, rfl⟩ := H0.out
        have el := HL.out _ _ _ _ hf
        have el2 : l0.length ≤ 4096 := by omega
        clear hf el H0
        go_wp2_with fail
        refine (vector_any A0 l0 c0 σ _ el2 O0.out).mono ?_
        rintro e w5 ⟨l1, s1, A1, c1, E1, rfl, C1, O1, hb⟩
        replace Op := hide ((show OwQ (w.heap.size + 3) _ _ _ by (repeat (first | with_reducible exact Op.out | with_reducible refine OwQ.far ?_ (by first | (simp; done) | omega | (simp; omega)) _ | with_reducible refine OwQ.allc ?_ _ | with_reducible refine OwQ.drew ?_ | with_reducible refine OwQ.drewN ?_ _))).kept hb)
        replace Oq := hide ((show OwQ (w.heap.size + 3) _ _ _ by (repeat (first | with_reducible exact Oq.out | with_reducible refine OwQ.far ?_ (by first | (simp; done) | omega | (simp; omega)) _ | with_reducible refine OwQ.allc ?_ _ | with_reducible refine OwQ.drew ?_ | with_reducible refine OwQ.drewN ?_ _))).kept hb)
        replace Om := hide (Om.out.below hb)
        replace Ok := hide (Ok.out.below hb)
        replace O1 := hide (O1.out.base (show w.heap.size + 3 ≤ _ by first | omega | (simp; omega) | (simp; done)))
        have hB5 : Below w.heap.size w w5 := Below.trans (by (repeat (first | with_reducible exact Below.refl _ _ | with_reducible assumption | with_reducible refine Below.setCell ?_ (by first | (simp; done) | omega | (simp; omega)) _ | with_reducible refine Below.alloc ?_ (by first | (simp; done) | omega | (simp; omega)) _ | with_reducible refine below_drewN ?_ _ | with_reducible refine Below.drew ?_))) (hb.mono (by first | omega | (simp; done) | (simp; omega)))
        obtain ⟨kc5, kf5⟩ := bcell hb
        have hz5 := hb.size
        (try simp at hz5)
        have n5_0 : w.heap.size < w5.heap.size := by omega
        have n5_1 : w.heap.size + 1 < w5.heap.size := by omega
        have n5_2 : w.heap.size + 2 < w5.heap.size := by omega
        have r5_0 : w5.cell? ⟨w.heap.size + 2, 0, none⟩ = some (.slice none 0 0) := (kc5 _ _ (by first | assumption | (simp; done) | omega | (simp; omega))).trans (by first | assumption | (simp [go_sem]; done) | (simp; done))
        have g5_0 : w5.frozen? ⟨w.heap.size + 2, 0, none⟩ = false := (kf5 _ _ (by first | assumption | (simp; done) | omega | (simp; omega))).trans (by first | assumption | (simp [go_sem]; done) | (simp; done))
        have r5_1 : w5.cell? ⟨w.heap.size + 2, 1, none⟩ = some (.bool false) := (kc5 _ _ (by first | assumption | (simp; done) | omega | (simp; omega))).trans (by first | assumption | (simp [go_sem]; done) | (simp; done))
        have g5_1 : w5.frozen? ⟨w.heap.size + 2, 1, none⟩ = false := (kf5 _ _ (by first | assumption | (simp; done) | omega | (simp; omega))).trans (by first | assumption | (simp [go_sem]; done) | (simp; done))
        clear hb
        go_wp2
        refine bodyPost_ret (v := .agg #[.slice A1 l1.length c1, .bool s1]) (by simp [results, Tryd.results59, go_sem, *]) rfl ?_
        exact ⟨l1, s1, A1, c1, hide (E1.out.trans (by rw [HR.out]; simp)), rfl, C1, hide (OwQ.base (B := w.heap.size + 3) (by (repeat (first | with_reducible exact O1.out | with_reducible refine OwQ.far ?_ (by first | (simp; done) | omega | (simp; omega)) _ | with_reducible refine OwQ.allc ?_ _ | with_reducible refine OwQ.drew ?_ | with_reducible refine OwQ.drewN ?_ _))) (by omega)), by (repeat (first | with_reducible exact Below.refl _ _ | with_reducible assumption | with_reducible refine Below.setCell ?_ (by first | (simp; done) | omega | (simp; omega)) _ | with_reducible refine Below.alloc ?_ (by first | (simp; done) | omega | (simp; omega)) _ | with_reducible refine below_drewN ?_ _ | with_reducible refine Below.drew ?_))⟩
set_option maxHeartbeats 2000000 in
theorem arith1_any (N : Nat) (f : List Bool → List Bool → Bool → Option (List Bool)) (Y : Value) (A B : Option Addr) (a b : List Int) (c d : Nat) (s t : Bool) (w : World) (ha : a.length ≤ 4096) (hb : b.length ≤ 4096) (hca : Hid (a.length ≤ c ∧ c ≤ maxLen)) (hcb : Hid (b.length ≤ d ∧ d ≤ maxLen)) (hA : RQ w A a) (hB : RQ w B b) (ya : By a) (yb : By b) (hop : OpN N f #[Y] w) (hlen : ∀ m n s l, f m n s = some l → l.length = m.length) :
    Calls Tryd.prog 59 #[.agg #[.slice A a.length c, .bool s], .agg #[.slice B b.length d, .bool t], .func (.func N) #[] #[Y]] w (RetC (· = ar f ⟨a, s⟩ ⟨b, t⟩) w) := by
  have hcf : ∀ args w, (callFunc N args).run Tryd.prog w = .ok (.enter N args) w := hop.cf
  have hct := hide (fun A B m n c d s W hW h1 h2 h3 h4 => (show Calls Tryd.prog N #[.slice A m.length c, .slice B n.length d, .bool s, Y] W (RetO (f m n s) W) from hop.ct A B m n c d s W hW h1 h2 h3 h4))
  have HL := hide hlen
  have hwd := wd_bd (a := ⟨a, s⟩) (b := ⟨b, t⟩) ya yb
  have HA := hide hA
  have HBB := hide hB
  have LA := hide ha
  have LB := hide hb
  have YA := hide ya
  have YB := hide yb
  clear hA hB ha hb ya yb
  clear hop hlen
  obtain ⟨n, hn⟩ : ∃ n, n = wd ⟨a, s⟩ ⟨b, t⟩ := ⟨_, rfl⟩
  have hcall := hide fun W (hW : Below w.heap.size w W) => balance_any A B a b c d s t W LA.out LB.out hca hcb (HA.out.below hW) (HBB.out.below hW) YA.out YB.out
  unfold RetB at hcall
  obtain ⟨σ, hσ⟩ : ∃ σ, σ = sg ⟨a, s⟩ ⟨b, t⟩ := ⟨_, rfl⟩
  rw [← hσ] at hcall
  obtain ⟨R, hR⟩ : ∃ R, R = ar f ⟨a, s⟩ ⟨b, t⟩ := ⟨_, rfl⟩
  rw [← hR]
  unfold ar at hR
  rw [← hn, ← hσ] at hR
  rw [← hn] at hwd
  have HN := hide hn
  have HR := hide hR
  clear hn hσ hR
  go_enter Tryd.func59, Tryd.ntmps59
  go_wp2_with fail
  refine (hcall.out _ (by (repeat (first | with_reducible exact Below.refl _ _ | with_reducible assumption | with_reducible refine Below.setCell ?_ (by first | (simp; done) | omega | (simp; omega)) _ | with_reducible refine Below.alloc ?_ (by first | (simp; done) | omega | (simp; omega)) _ | with_reducible refine below_drewN ?_ _ | with_reducible refine Below.drew ?_)))).mono ?_
  rintro e w1 ⟨p, P, pc, q, Q, qc, Ep, Eq, rfl, Cp, Cq, Op, Oq, -, hb⟩
  replace Op := hide (Op.out.base (show w.heap.size + 3 ≤ _ by first | omega | (simp; omega) | (simp; done)))
  replace Oq := hide (Oq.out.base (show w.heap.size + 3 ≤ _ by first | omega | (simp; omega) | (simp; done)))
  have hB1 : Below w.heap.size w w1 := Below.trans (by (repeat (first | with_reducible exact Below.refl _ _ | with_reducible assumption | with_reducible refine Below.setCell ?_ (by first | (simp; done) | omega | (simp; omega)) _ | with_reducible refine Below.alloc ?_ (by first | (simp; done) | omega | (simp; omega)) _ | with_reducible refine below_drewN ?_ _ | with_reducible refine Below.drew ?_))) (hb.mono (by first | omega | (simp; done) | (simp; omega)))
  obtain ⟨kc1, kf1⟩ := bcell hb
  have hz1 := hb.size
  (try simp at hz1)
  have n1_0 : w.heap.size < w1.heap.size := by omega
  have n1_1 : w.heap.size + 1 < w1.heap.size := by omega
  have n1_2 : w.heap.size + 2 < w1.heap.size := by omega
  have r1_0 : w1.cell? ⟨w.heap.size + 2, 0, none⟩ = some (.slice none 0 0) := (kc1 _ _ (by first | assumption | (simp; done) | omega | (simp; omega))).trans (by first | assumption | (simp [go_sem]; done) | (simp; done))
  have g1_0 : w1.frozen? ⟨w.heap.size + 2, 0, none⟩ = false := (kf1 _ _ (by first | assumption | (simp; done) | omega | (simp; omega))).trans (by first | assumption | (simp [go_sem]; done) | (simp; done))
  have r1_1 : w1.cell? ⟨w.heap.size + 2, 1, none⟩ = some (.bool false) := (kc1 _ _ (by first | assumption | (simp; done) | omega | (simp; omega))).trans (by first | assumption | (simp [go_sem]; done) | (simp; done))
  have g1_1 : w1.frozen? ⟨w.heap.size + 2, 1, none⟩ = false := (kf1 _ _ (by first | assumption | (simp; done) | omega | (simp; omega))).trans (by first | assumption | (simp [go_sem]; done) | (simp; done))
  clear hb
  have lp : p.length = n := by rw [Ep.out, blA_length, HN.out]
  have lq : q.length = n := by rw [Eq.out, blB_length, HN.out]
  rw [← Ep.out, ← Eq.out] at HR
  have LP := hide lp
  have LQ := hide lq
  have L1 : p.length ≤ 4096 := by omega
  have L2 : q.length ≤ 4096 := by omega
  have L3 : 0 < p.length := by omega
  clear lp lq
  have k1 := hide (known_any P p pc w1 L1 Op.out.rd)
  have k2 := hide (known_any Q q qc w1 L2 Oq.out.rd)
  cases hk1 : kn p
  · rw [hk1] at k1 HR
    have hk := hk1
    clear hk1
    go_wp2_with fail
    refine (k1.out).mono ?_
    rintro e w' ⟨rfl, rfl⟩
    go_wp2_with fail
    refine (unknown_any p.length σ _ L3 L1).mono ?_
    rintro e w2 ⟨l1, s1, A1, c1, E1, rfl, C1, O1, hb⟩
    replace Op := hide ((show OwQ (w.heap.size + 3) _ _ _ by (repeat (first | with_reducible exact Op.out | with_reducible refine OwQ.far ?_ (by first | (simp; done) | omega | (simp; omega)) _ | with_reducible refine OwQ.allc ?_ _ | with_reducible refine OwQ.drew ?_ | with_reducible refine OwQ.drewN ?_ _))).kept hb)
    replace Oq := hide ((show OwQ (w.heap.size + 3) _ _ _ by (repeat (first | with_reducible exact Oq.out | with_reducible refine OwQ.far ?_ (by first | (simp; done) | omega | (simp; omega)) _ | with_reducible refine OwQ.allc ?_ _ | with_reducible refine OwQ.drew ?_ | with_reducible refine OwQ.drewN ?_ _))).kept hb)
    replace O1 := hide (O1.out.base (show w.heap.size + 3 ≤ _ by first | omega | (simp; omega) | (simp; done)))
    have hB2 : Below w.heap.size w w2 := Below.trans (by (repeat (first | with_reducible exact Below.refl _ _ | with_reducible assumption | with_reducible refine Below.setCell ?_ (by first | (simp; done) | omega | (simp; omega)) _ | with_reducible refine Below.alloc ?_ (by first | (simp; done) | omega | (simp; omega)) _ | with_reducible refine below_drewN ?_ _ | with_reducible refine Below.drew ?_))) (hb.mono (by first | omega | (simp; done) | (simp; omega)))
    obtain ⟨kc2, kf2⟩ := bcell hb
    have hz2 := hb.size
    (try simp at hz2)
    have n2_0 : w.heap.size < w2.heap.size := by omega
    have n2_1 : w.heap.size + 1 < w2.heap.size := by omega
    have n2_2 : w.heap.size + 2 < w2.heap.size := by omega
    have r2_0 : w2.cell? ⟨w.heap.size + 2, 0, none⟩ = some (.slice none 0 0) := (kc2 _ _ (by first | assumption | (simp; done) | omega | (simp; omega))).trans (by first | assumption | (simp [go_sem]; done) | (simp; done))
    have g2_0 : w2.frozen? ⟨w.heap.size + 2, 0, none⟩ = false := (kf2 _ _ (by first | assumption | (simp; done) | omega | (simp; omega))).trans (by first | assumption | (simp [go_sem]; done) | (simp; done))
    have r2_1 : w2.cell? ⟨w.heap.size + 2, 1, none⟩ = some (.bool false) := (kc2 _ _ (by first | assumption | (simp; done) | omega | (simp; omega))).trans (by first | assumption | (simp [go_sem]; done) | (simp; done))
    have g2_1 : w2.frozen? ⟨w.heap.size + 2, 1, none⟩ = false := (kf2 _ _ (by first | assumption | (simp; done) | omega | (simp; omega))).trans (by first | assumption | (simp [go_sem]; done) | (simp; done))
    clear hb
    go_wp2
    refine bodyPost_ret (v := .agg #[.slice A1 l1.length c1, .bool s1]) (by simp [results, Tryd.results59, go_sem, *]) rfl ?_
    exact ⟨l1, s1, A1, c1, hide (E1.out.trans (by rw [HR.out, LP.out]; simp)), rfl, C1, hide (OwQ.base (B := w.heap.size + 3) (by (repeat (first | with_reducible exact O1.out | with_reducible refine OwQ.far ?_ (by first | (simp; done) | omega | (simp; omega)) _ | with_reducible refine OwQ.allc ?_ _ | with_reducible refine OwQ.drew ?_ | with_reducible refine OwQ.drewN ?_ _))) (by omega)), by (repeat (first | with_reducible exact Below.refl _ _ | with_reducible assumption | with_reducible refine Below.setCell ?_ (by first | (simp; done) | omega | (simp; omega)) _ | with_reducible refine Below.alloc ?_ (by first | (simp; done) | omega | (simp; omega)) _ | with_reducible refine below_drewN ?_ _ | with_reducible refine Below.drew ?_))⟩
  · cases hk2 : kn q
    · rw [hk1] at k1 HR
      rw [hk2] at k2 HR
      clear hk1 hk2
      go_wp2_with fail
      refine (k1.out).mono ?_
      rintro e w' ⟨rfl, rfl⟩
      go_wp2_with fail
      refine (k2.out).mono ?_
      rintro e w' ⟨rfl, rfl⟩
      go_wp2_with fail
      refine (unknown_any p.length σ _ L3 L1).mono ?_
      rintro e w2 ⟨l1, s1, A1, c1, E1, rfl, C1, O1, hb⟩
      replace Op := hide ((show OwQ (w.heap.size + 3) _ _ _ by (repeat (first | with_reducible exact Op.out | with_reducible refine OwQ.far ?_ (by first | (simp; done) | omega | (simp; omega)) _ | with_reducible refine OwQ.allc ?_ _ | with_reducible refine OwQ.drew ?_ | with_reducible refine OwQ.drewN ?_ _))).kept hb)
      replace Oq := hide ((show OwQ (w.heap.size + 3) _ _ _ by (repeat (first | with_reducible exact Oq.out | with_reducible refine OwQ.far ?_ (by first | (simp; done) | omega | (simp; omega)) _ | with_reducible refine OwQ.allc ?_ _ | with_reducible refine OwQ.drew ?_ | with_reducible refine OwQ.drewN ?_ _))).kept hb)
      replace O1 := hide (O1.out.base (show w.heap.size + 3 ≤ _ by first | omega | (simp; omega) | (simp; done)))
      have hB2 : Below w.heap.size w w2 := Below.trans (by (repeat (first | with_reducible exact Below.refl _ _ | with_reducible assumption | with_reducible refine Below.setCell ?_ (by first | (simp; done) | omega | (simp; omega)) _ | with_reducible refine Below.alloc ?_ (by first | (simp; done) | omega | (simp; omega)) _ | with_reducible refine below_drewN ?_ _ | with_reducible refine Below.drew ?_))) (hb.mono (by first | omega | (simp; done) | (simp; omega)))
      obtain ⟨kc2, kf2⟩ := bcell hb
      have hz2 := hb.size
      (try simp at hz2)
      have n2_0 : w.heap.size < w2.heap.size := by omega
      have n2_1 : w.heap.size + 1 < w2.heap.size := by omega
      have n2_2 : w.heap.size + 2 < w2.heap.size := by omega
      have r2_0 : w2.cell? ⟨w.heap.size + 2, 0, none⟩ = some (.slice none 0 0) := (kc2 _ _ (by first | assumption | (simp; done) | omega | (simp; omega))).trans (by first | assumption | (simp [go_sem]; done) | (simp; done))
      have g2_0 : w2.frozen? ⟨w.heap.size + 2, 0, none⟩ = false := (kf2 _ _ (by first | assumption | (simp; done) | omega | (simp; omega))).trans (by first | assumption | (simp [go_sem]; done) | (simp; done))
      have r2_1 : w2.cell? ⟨w.heap.size + 2, 1, none⟩ = some (.bool false) := (kc2 _ _ (by first | assumption | (simp; done) | omega | (simp; omega))).trans (by first | assumption | (simp [go_sem]; done) | (simp; done))
      have g2_1 : w2.frozen? ⟨w.heap.size + 2, 1, none⟩ = false := (kf2 _ _ (by first | assumption | (simp; done) | omega | (simp; omega))).trans (by first | assumption | (simp [go_sem]; done) | (simp; done))
      clear hb
      go_wp2
      refine bodyPost_ret (v := .agg #[.slice A1 l1.length c1, .bool s1]) (by simp [results, Tryd.results59, go_sem, *]) rfl ?_
      exact ⟨l1, s1, A1, c1, hide (E1.out.trans (by rw [HR.out, LP.out]; simp)), rfl, C1, hide (OwQ.base (B := w.heap.size + 3) (by (repeat (first | with_reducible exact O1.out | with_reducible refine OwQ.far ?_ (by first | (simp; done) | omega | (simp; omega)) _ | with_reducible refine OwQ.allc ?_ _ | with_reducible refine OwQ.drew ?_ | with_reducible refine OwQ.drewN ?_ _))) (by omega)), by (repeat (first | with_reducible exact Below.refl _ _ | with_reducible assumption | with_reducible refine Below.setCell ?_ (by first | (simp; done) | omega | (simp; omega)) _ | with_reducible refine Below.alloc ?_ (by first | (simp; done) | omega | (simp; omega)) _ | with_reducible refine below_drewN ?_ _ | with_reducible refine Below.drew ?_))⟩
    · rw [hk1] at k1 HR
      rw [hk2] at k2 HR
      clear hk1 hk2
      go_wp2_with fail
      refine (k1.out).mono ?_
      rintro e w' ⟨rfl, rfl⟩
      go_wp2_with fail
      refine (k2.out).mono ?_
      rintro e w' ⟨rfl, rfl⟩
      go_wp2_with fail
      refine (number_q P p pc _ L1 Op.out.rd).mono ?_
      rintro e w2 ⟨lm, Am, cm, Em, rfl, Cm, Om, hb⟩
      replace Op := hide ((show OwQ (w.heap.size + 3) _ _ _ by (repeat (first | with_reducible exact Op.out | with_reducible refine OwQ.far ?_ (by first | (simp; done) | omega | (simp; omega)) _ | with_reducible refine OwQ.allc ?_ _ | with_reducible refine OwQ.drew ?_ | with_reducible refine OwQ.drewN ?_ _))).kept hb)
      replace Oq := hide ((show OwQ (w.heap.size + 3) _ _ _ by (repeat (first | with_reducible exact Oq.out | with_reducible refine OwQ.far ?_ (by first | (simp; done) | omega | (simp; omega)) _ | with_reducible refine OwQ.allc ?_ _ | with_reducible refine OwQ.drew ?_ | with_reducible refine OwQ.drewN ?_ _))).kept hb)
      replace Om := hide Om.out.rd
      have hB2 : Below w.heap.size w w2 := Below.trans (by (repeat (first | with_reducible exact Below.refl _ _ | with_reducible assumption | with_reducible refine Below.setCell ?_ (by first | (simp; done) | omega | (simp; omega)) _ | with_reducible refine Below.alloc ?_ (by first | (simp; done) | omega | (simp; omega)) _ | with_reducible refine below_drewN ?_ _ | with_reducible refine Below.drew ?_))) (hb.mono (by first | omega | (simp; done) | (simp; omega)))
      obtain ⟨kc2, kf2⟩ := bcell hb
      have hz2 := hb.size
      (try simp at hz2)
      have n2_0 : w.heap.size < w2.heap.size := by omega
      have n2_1 : w.heap.size + 1 < w2.heap.size := by omega
      have n2_2 : w.heap.size + 2 < w2.heap.size := by omega
      have r2_0 : w2.cell? ⟨w.heap.size + 2, 0, none⟩ = some (.slice none 0 0) := (kc2 _ _ (by first | assumption | (simp; done) | omega | (simp; omega))).trans (by first | assumption | (simp [go_sem]; done) | (simp; done))
      have g2_0 : w2.frozen? ⟨w.heap.size + 2, 0, none⟩ = false := (kf2 _ _ (by first | assumption | (simp; done) | omega | (simp; omega))).trans (by first | assumption | (simp [go_sem]; done) | (simp; done))
      have r2_1 : w2.cell? ⟨w.heap.size + 2, 1, none⟩ = some (.bool false) := (kc2 _ _ (by first | assumption | (simp; done) | omega | (simp; omega))).trans (by first | assumption | (simp [go_sem]; done) | (simp; done))
      have g2_1 : w2.frozen? ⟨w.heap.size + 2, 1, none⟩ = false := (kf2 _ _ (by first | assumption | (simp; done) | omega | (simp; omega))).trans (by first | assumption | (simp [go_sem]; done) | (simp; done))
      clear hb
      go_wp2_with fail
      refine (number_q Q q qc _ L2 Oq.out.rd).mono ?_
      rintro e w3 ⟨lk, Ak, ck, Ek, rfl, Ck, Ok, hb⟩
      replace Op := hide ((show OwQ (w.heap.size + 3) _ _ _ by (repeat (first | with_reducible exact Op.out | with_reducible refine OwQ.far ?_ (by first | (simp; done) | omega | (simp; omega)) _ | with_reducible refine OwQ.allc ?_ _ | with_reducible refine OwQ.drew ?_ | with_reducible refine OwQ.drewN ?_ _))).kept hb)
      replace Oq := hide ((show OwQ (w.heap.size + 3) _ _ _ by (repeat (first | with_reducible exact Oq.out | with_reducible refine OwQ.far ?_ (by first | (simp; done) | omega | (simp; omega)) _ | with_reducible refine OwQ.allc ?_ _ | with_reducible refine OwQ.drew ?_ | with_reducible refine OwQ.drewN ?_ _))).kept hb)
      replace Om := hide (Om.out.below hb)
      replace Ok := hide Ok.out.rd
      have hB3 : Below w.heap.size w w3 := Below.trans (by (repeat (first | with_reducible exact Below.refl _ _ | with_reducible assumption | with_reducible refine Below.setCell ?_ (by first | (simp; done) | omega | (simp; omega)) _ | with_reducible refine Below.alloc ?_ (by first | (simp; done) | omega | (simp; omega)) _ | with_reducible refine below_drewN ?_ _ | with_reducible refine Below.drew ?_))) (hb.mono (by first | omega | (simp; done) | (simp; omega)))
      obtain ⟨kc3, kf3⟩ := bcell hb
      have hz3 := hb.size
      (try simp at hz3)
      have n3_0 : w.heap.size < w3.heap.size := by omega
      have n3_1 : w.heap.size + 1 < w3.heap.size := by omega
      have n3_2 : w.heap.size + 2 < w3.heap.size := by omega
      have r3_0 : w3.cell? ⟨w.heap.size + 2, 0, none⟩ = some (.slice none 0 0) := (kc3 _ _ (by first | assumption | (simp; done) | omega | (simp; omega))).trans (by first | assumption | (simp [go_sem]; done) | (simp; done))
      have g3_0 : w3.frozen? ⟨w.heap.size + 2, 0, none⟩ = false := (kf3 _ _ (by first | assumption | (simp; done) | omega | (simp; omega))).trans (by first | assumption | (simp [go_sem]; done) | (simp; done))
      have r3_1 : w3.cell? ⟨w.heap.size + 2, 1, none⟩ = some (.bool false) := (kc3 _ _ (by first | assumption | (simp; done) | omega | (simp; omega))).trans (by first | assumption | (simp [go_sem]; done) | (simp; done))
      have g3_1 : w3.frozen? ⟨w.heap.size + 2, 1, none⟩ = false := (kf3 _ _ (by first | assumption | (simp; done) | omega | (simp; omega))).trans (by first | assumption | (simp [go_sem]; done) | (simp; done))
      clear hb
      have em : lm.length = p.length := by rw [Em.out, nb_length]
      have ek : lk.length = q.length := by rw [Ek.out, nb_length]
      rw [← Em.out, ← Ek.out] at HR
      have EM := hide em
      have em2 : lm.length ≤ 4096 := by omega
      have ek2 : lk.length ≤ 4096 := by omega
      clear em ek
      go_wp2_with fail
      refine (hct.out Am Ak lm lk cm ck σ _ (by (repeat (first | with_reducible exact Below.refl _ _ | with_reducible assumption | with_reducible refine Below.setCell ?_ (by first | (simp; done) | omega | (simp; omega)) _ | with_reducible refine Below.alloc ?_ (by first | (simp; done) | omega | (simp; omega)) _ | with_reducible refine below_drewN ?_ _ | with_reducible refine Below.drew ?_))) em2 ek2 Om.out Ok.out).mono ?_
      rintro e w4 ⟨l0, A0, c0, E0, rfl, H0, O0, hb⟩
      replace Op := hide ((show OwQ (w.heap.size + 3) _ _ _ by (repeat (first | with_reducible exact Op.out | with_reducible refine OwQ.far ?_ (by first | (simp; done) | omega | (simp; omega)) _ | with_reducible refine OwQ.allc ?_ _ | with_reducible refine OwQ.drew ?_ | with_reducible refine OwQ.drewN ?_ _))).kept hb)
      replace Oq := hide ((show OwQ (w.heap.size + 3) _ _ _ by (repeat (first | with_reducible exact Oq.out | with_reducible refine OwQ.far ?_ (by first | (simp; done) | omega | (simp; omega)) _ | with_reducible refine OwQ.allc ?_ _ | with_reducible refine OwQ.drew ?_ | with_reducible refine OwQ.drewN ?_ _))).kept hb)
      replace Om := hide (Om.out.below hb)
      replace Ok := hide (Ok.out.below hb)
      have hB4 : Below w.heap.size w w4 := Below.trans (by (repeat (first | with_reducible exact Below.refl _ _ | with_reducible assumption | with_reducible refine Below.setCell ?_ (by first | (simp; done) | omega | (simp; omega)) _ | with_reducible refine Below.alloc ?_ (by first | (simp; done) | omega | (simp; omega)) _ | with_reducible refine below_drewN ?_ _ | with_reducible refine Below.drew ?_))) (hb.mono (by first | omega | (simp; done) | (simp; omega)))
      obtain ⟨kc4, kf4⟩ := bcell hb
      have hz4 := hb.size
      (try simp at hz4)
      have n4_0 : w.heap.size < w4.heap.size := by omega
      have n4_1 : w.heap.size + 1 < w4.heap.size := by omega
      have n4_2 : w.heap.size + 2 < w4.heap.size := by omega
      have r4_0 : w4.cell? ⟨w.heap.size + 2, 0, none⟩ = some (.slice none 0 0) := (kc4 _ _ (by first | assumption | (simp; done) | omega | (simp; omega))).trans (by first | assumption | (simp [go_sem]; done) | (simp; done))
      have g4_0 : w4.frozen? ⟨w.heap.size + 2, 0, none⟩ = false := (kf4 _ _ (by first | assumption | (simp; done) | omega | (simp; omega))).trans (by first | assumption | (simp [go_sem]; done) | (simp; done))
      have r4_1 : w4.cell? ⟨w.heap.size + 2, 1, none⟩ = some (.bool false) := (kc4 _ _ (by first | assumption | (simp; done) | omega | (simp; omega))).trans (by first | assumption | (simp [go_sem]; done) | (simp; done))
      have g4_1 : w4.frozen? ⟨w.heap.size + 2, 1, none⟩ = false := (kf4 _ _ (by first | assumption | (simp; done) | omega | (simp; omega))).trans (by first | assumption | (simp [go_sem]; done) | (simp; done))
      clear hb
      cases hf : f lm lk σ
      · rw [hf] at H0 HR
        have hne : E0 ≠ 0 := H0.out
        have hne2 : (E0 != 0) = true := by simpa using hne
        clear hf hne
        go_wp2_with fail
        refine (unknown_any p.length σ _ L3 L1).mono ?_
        rintro e w5 ⟨l1, s1, A1, c1, E1, rfl, C1, O1, hb⟩
        replace Op := hide ((show OwQ (w.heap.size + 3) _ _ _ by (repeat (first | with_reducible exact Op.out | with_reducible refine OwQ.far ?_ (by first | (simp; done) | omega | (simp; omega)) _ | with_reducible refine OwQ.allc ?_ _ | with_reducible refine OwQ.drew ?_ | with_reducible refine OwQ.drewN ?_ _))).kept hb)
        replace Oq := hide ((show OwQ (w.heap.size + 3) _ _ _ by (repeat (first | with_reducible exact Oq.out | with_reducible refine OwQ.far ?_ (by first | (simp; done) | omega | (simp; omega)) _ | with_reducible refine OwQ.allc ?_ _ | with_reducible refine OwQ.drew ?_ | with_reducible refine OwQ.drewN ?_ _))).kept hb)
        replace Om := hide (Om.out.below hb)
        replace Ok := hide (Ok.out.below hb)
        replace O1 := hide (O1.out.base (show w.heap.size + 3 ≤ _ by first | omega | (simp; omega) | (simp; done)))
        have hB5 : Below w.heap.size w w5 := Below.trans (by (repeat (first | with_reducible exact Below.refl _ _ | with_reducible assumption | with_reducible refine Below.setCell ?_ (by first | (simp; done) | omega | (simp; omega)) _ | with_reducible refine Below.alloc ?_ (by first | (simp; done) | omega | (simp; omega)) _ | with_reducible refine below_drewN ?_ _ | with_reducible refine Below.drew ?_))) (hb.mono (by first | omega | (simp; done) | (simp; omega)))
        obtain ⟨kc5, kf5⟩ := bcell hb
        have hz5 := hb.size
        (try simp at hz5)
        have n5_0 : w.heap.size < w5.heap.size := by omega
        have n5_1 : w.heap.size + 1 < w5.heap.size := by omega
        have n5_2 : w.heap.size + 2 < w5.heap.size := by omega
        have r5_0 : w5.cell? ⟨w.heap.size + 2, 0, none⟩ = some (.slice none 0 0) := (kc5 _ _ (by first | assumption | (simp; done) | omega | (simp; omega))).trans (by first | assumption | (simp [go_sem]; done) | (simp; done))
        have g5_0 : w5.frozen? ⟨w.heap.size + 2, 0, none⟩ = false := (kf5 _ _ (by first | assumption | (simp; done) | omega | (simp; omega))).trans (by first | assumption | (simp [go_sem]; done) | (simp; done))
        have r5_1 : w5.cell? ⟨w.heap.size + 2, 1, none⟩ = some (.bool false) := (kc5 _ _ (by first | assumption | (simp; done) | omega | (simp; omega))).trans (by first | assumption | (simp [go_sem]; done) | (simp; done))
        have g5_1 : w5.frozen? ⟨w.heap.size + 2, 1, none⟩ = false := (kf5 _ _ (by first | assumption | (simp; done) | omega | (simp; omega))).trans (by first | assumption | (simp [go_sem]; done) | (simp; done))
        clear hb
        go_wp2
        refine bodyPost_ret (v := .agg #[.slice A1 l1.length c1, .bool s1]) (by simp [results, Tryd.results59, go_sem, *]) rfl ?_
        exact ⟨l1, s1, A1, c1, hide (E1.out.trans (by rw [HR.out, LP.out]; simp)), rfl, C1, hide (OwQ.base (B := w.heap.size + 3) (by (repeat (first | with_reducible exact O1.out | with_reducible refine OwQ.far ?_ (by first | (simp; done) | omega | (simp; omega)) _ | with_reducible refine OwQ.allc ?_ _ | with_reducible refine OwQ.drew ?_ | with_reducible refine OwQ.drewN ?_ _))) (by omega)), by (repeat (first | with_reducible exact Below.refl _ _ | with_reducible assumption | with_reducible refine Below.setCell ?_ (by first | (simp; done) | omega | (simp; omega)) _ | with_reducible refine Below.alloc ?_ (by first | (simp; done) | omega | (simp; omega)) _ | with_reducible refine below_drewN ?_ _ | with_reducible refine Below.drew ?_))⟩
      · rename_i v
        rw [hf] at H0 HR
        obtain ⟨rfl, rfl⟩ := H0.out
        have el := HL.out _ _ _ _ hf
        have el2 : l0.length ≤ 4096 := by omega
        clear hf el H0
        go_wp2_with fail
        refine (vector_any A0 l0 c0 σ _ el2 O0.out).mono ?_
        rintro e w5 ⟨l1, s1, A1, c1, E1, rfl, C1, O1, hb⟩
        replace Op := hide ((show OwQ (w.heap.size + 3) _ _ _ by (repeat (first | with_reducible exact Op.out | with_reducible refine OwQ.far ?_ (by first | (simp; done) | omega | (simp; omega)) _ | with_reducible refine OwQ.allc ?_ _ | with_reducible refine OwQ.drew ?_ | with_reducible refine OwQ.drewN ?_ _))).kept hb)
        replace Oq := hide ((show OwQ (w.heap.size + 3) _ _ _ by (repeat (first | with_reducible exact Oq.out | with_reducible refine OwQ.far ?_ (by first | (simp; done) | omega | (simp; omega)) _ | with_reducible refine OwQ.allc ?_ _ | with_reducible refine OwQ.drew ?_ | with_reducible refine OwQ.drewN ?_ _))).kept hb)
        replace Om := hide (Om.out.below hb)
        replace Ok := hide (Ok.out.below hb)
        replace O1 := hide (O1.out.base (show w.heap.size + 3 ≤ _ by first | omega | (simp; omega) | (simp; done)))
        have hB5 : Below w.heap.size w w5 := Below.trans (by (repeat (first | with_reducible exact Below.refl _ _ | with_reducible assumption | with_reducible refine Below.setCell ?_ (by first | (simp; done) | omega | (simp; omega)) _ | with_reducible refine Below.alloc ?_ (by first | (simp; done) | omega | (simp; omega)) _ | with_reducible refine below_drewN ?_ _ | with_reducible refine Below.drew ?_))) (hb.mono (by first | omega | (simp; done) | (simp; omega)))
        obtain ⟨kc5, kf5⟩ := bcell hb
        have hz5 := hb.size
        (try simp at hz5)
        have n5_0 : w.heap.size < w5.heap.size := by omega
        have n5_1 : w.heap.size + 1 < w5.heap.size := by omega
        have n5_2 : w.heap.size + 2 < w5.heap.size := by omega
        have r5_0 : w5.cell? ⟨w.heap.size + 2, 0, none⟩ = some (.slice none 0 0) := (kc5 _ _ (by first | assumption | (simp; done) | omega | (simp; omega))).trans (by first | assumption | (simp [go_sem]; done) | (simp; done))
        have g5_0 : w5.frozen? ⟨w.heap.size + 2, 0, none⟩ = false := (kf5 _ _ (by first | assumption | (simp; done) | omega | (simp; omega))).trans (by first | assumption | (simp [go_sem]; done) | (simp; done))
        have r5_1 : w5.cell? ⟨w.heap.size + 2, 1, none⟩ = some (.bool false) := (kc5 _ _ (by first | assumption | (simp; done) | omega | (simp; omega))).trans (by first | assumption | (simp [go_sem]; done) | (simp; done))
        have g5_1 : w5.frozen? ⟨w.heap.size + 2, 1, none⟩ = false := (kf5 _ _ (by first | assumption | (simp; done) | omega | (simp; omega))).trans (by first | assumption | (simp [go_sem]; done) | (simp; done))
        clear hb
        go_wp2
        refine bodyPost_ret (v := .agg #[.slice A1 l1.length c1, .bool s1]) (by simp [results, Tryd.results59, go_sem, *]) rfl ?_
        exact ⟨l1, s1, A1, c1, hide (E1.out.trans (by rw [HR.out]; simp)), rfl, C1, hide (OwQ.base (B := w.heap.size + 3) (by (repeat (first | with_reducible exact O1.out | with_reducible refine OwQ.far ?_ (by first | (simp; done) | omega | (simp; omega)) _ | with_reducible refine OwQ.allc ?_ _ | with_reducible refine OwQ.drew ?_ | with_reducible refine OwQ.drewN ?_ _))) (by omega)), by (repeat (first | with_reducible exact Below.refl _ _ | with_reducible assumption | with_reducible refine Below.setCell ?_ (by first | (simp; done) | omega | (simp; omega)) _ | with_reducible refine Below.alloc ?_ (by first | (simp; done) | omega | (simp; omega)) _ | with_reducible refine below_drewN ?_ _ | with_reducible refine Below.drew ?_))⟩
end
end Go.Proofs.YtkfifkijcknikaaDoor
