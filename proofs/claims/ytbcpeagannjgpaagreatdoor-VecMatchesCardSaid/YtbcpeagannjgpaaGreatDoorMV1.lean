/-
  Texts of MV joined (StrH, Sx, BvM, BvN, BvA, Sy, VecSI, BitM, BvB, BvC, BvD, BvE, BvP, BvF, BvG, BvH, BvI, BvJ, BvK, BvR, BvS, BvT, BvU).
-/
import Derived.StillTail
import Derived.Deep.RegionHeld
import Derived.WalkKit
import Derived.Lib.Hide
import Derived.Test.YtbcpeagannjgpaaGreatDoorProg
import Derived.WalkSpells
import Derived.WalkLawsBesides
import Derived.Deep.QuietTactic
import Derived.BigQuiet
import Derived.Below
import Derived.Outline
import Derived.Deep.RegionHeld3
import Derived.OwnWalk
import Derived.Laws.Rows
import Derived.OneCell
import Derived.LoopTactic
import Derived.StillTailTactics
import Derived.Lib.SliceRun
import Derived.Laws.CopyOwn
import Derived.Deep.CutRange
import Derived.Deep.DeepCutAuto
set_option linter.unusedVariables false
set_option linter.unusedSimpArgs false
set_option linter.unusedSectionVars false
namespace Go.Proofs.YtbcpeagannjgpaaGreatDoor
theorem kr {α : Sort _} {a b : α} (h : a = b := by kernel_rfl) : a = b := h
theorem as0 {p : Prop} (h : p := by first | assumption | (simp; done) | omega | (simp; omega)) : p := h
theorem as2 {p : Prop} (h : p := by first | assumption | (simp [go_sem]; done) | (simp; done)) : p := h
theorem as1 {p : Prop} (h : p := by first | assumption | (simp [go_sem]; done)) : p := h
theorem as3 {p : Prop} (h : p := by first | (simp; done) | omega | (simp; omega)) : p := h
theorem as4 {p : Prop} (h : p := by first | omega | (simp; done) | (simp; omega)) : p := h
theorem q2 {α : Type _} {l : List α} {i : Nat} (h : i < l.toArray.size) : l.toArray[i] = l[i]'(by simpa using h) := List.getElem_toArray h
theorem q3 {α : Type _} {a : α} {l : List α} {h : 0 < (a :: l).length} : (a :: l)[0] = a := rfl
theorem q4 {α : Type _} {a : α} {l : List α} {i : Nat} {h : i + 1 < (a :: l).length} : (a :: l)[i + 1] = l[i]'(Nat.lt_of_succ_lt_succ h) := rfl
theorem q5 {α : Type _} {l : List α} {i : Nat} {a : α} : l.toArray.setIfInBounds i a = (l.set i a).toArray := List.setIfInBounds_toArray _ _ _
theorem q6 {α : Type _} {a b : α} {l : List α} : (a :: l).set 0 b = b :: l := rfl
theorem q7 {α : Type _} {a b : α} {l : List α} {i : Nat} : (a :: l).set (i + 1) b = a :: l.set i b := rfl
theorem nq {a b : Nat} (h : a ≠ b := by first | assumption | exact Ne.symm (by assumption)) : a ≠ b := h
section
open Go
section
variable {P : Program} {ops : Array Oper} {Q : Exit → Act → World → Prop} {md : Region.Mode} {S : World → Prop} {n : Nat}
def anyT (P : Program) (md : Region.Mode) (ops : Array Oper) (Q : Exit → Act → World → Prop) (S : World → Prop) (n : Nat) : Nat → Array Bool → Act → World → Prop
  | 0, listed, a, w => Region.ready md ops listed = [] ∧ Q .normal a w
  | fuel + 1, listed, a, w =>
    (Region.ready md ops listed = [] → Q .normal a w) ∧
    ∀ i ∈ Region.ready md ops listed, wpOp P ops Q i (fun a' w' => (i < n → S w') ∧ anyT P md ops Q S n fuel (listed.setIfInBounds i true) a' w') a w
theorem any_of_anyT : ∀ (fuel : Nat) (listed : Array Bool) (a : Act) (w : World), anyT P md ops Q S n fuel listed a w → wpAny P md ops Q fuel listed a w
  | 0, _, _, _, h => h
  | fuel + 1, _, _, _, h => ⟨h.1, fun i hi => wpOp_mono (fun a' w' h' => any_of_anyT fuel _ a' w' h'.2) (h.2 i hi)⟩
theorem anyT_first {i : Nat} {oi : Oper} {v : Value} (hi : ops[i]? = some oi) (hsel : ∀ (j : Nat) (o : Oper) cs b, ops[j]? = some o → o.op ≠ .select cs b)
    (hs : Region.sinkB md ops n = true) (hc : Region.chainB md ops n = true) (hn : n < ops.size) (hin : i < n)
    (hQ : ∀ c a w, Q (.panic c) (a.put oi.dst v) w → Q (.panic c) a w) :
    ∀ (fuel : Nat) (listed : Array Bool) (a : Act) (w : World), HeadInv md ops n listed →
      (∀ j oj, ops[j]? = some oj → j ≠ i → listed.getD j true = false → (∀ e ∈ oj.after, Region.binds md e = true → e.on ≠ i) → oi.apart ops oj = true) →
      i ∈ Region.ready md ops listed → YieldsIf P ops S oi v a → S w →
      anyT P md ops Q S n fuel (listed.setIfInBounds i true) (a.put oi.dst v) w → anyT P md ops Q S n (fuel + 1) listed a w := by
  intro fuel
  induction fuel with
  | zero =>
    intro listed a w inv _ hr hy hS H
    refine ⟨fun h => (by rw [h] at hr; cases hr), fun j hj => ?_⟩
    by_cases hji : j = i
    · subst hji; exact hy.wpOp hi hS ⟨fun _ => hS, H⟩
    · have := ready_mono hj hji
      rw [H.1] at this
      cases this
  | succ fuel ih =>
    intro listed a w inv hfree hr hy hS H
    have hun := (mem_ready.1 hr).1
    refine ⟨fun h => (by rw [h] at hr; cases hr), fun j hj => ?_⟩
    have hjn : j < n := by
      rcases Nat.lt_or_ge j n with h | h
      · exact h
      · exact absurd hj (tail_waits hs hc hn inv _ i rfl hin hun j h)
    by_cases hji : j = i
    · subst hji; exact hy.wpOp hi hS ⟨fun _ => hS, H⟩
    · have h1 := H.2 j (ready_mono hj hji)
      obtain ⟨hjun, oj, hoj, hall⟩ := mem_ready.1 hj
      have hnot : ∀ e ∈ oj.after, Region.binds md e = true → e.on ≠ i := fun e he hb heq => by
        have h2 := hall e he hb
        rw [heq, getD_both hun] at h2
        cases h2
      have h2 := wpOp_putIf hoj (hfree j oj hoj hji hjun hnot) (fun cs b => hsel i oi cs b hi) (fun cs b => hsel j oj cs b hoj) hQ hy h1
      have hfree' : ∀ k ok, ops[k]? = some ok → k ≠ i → (listed.setIfInBounds j true).getD k true = false →
          (∀ e ∈ ok.after, Region.binds md e = true → e.on ≠ i) → oi.apart ops ok = true := fun k ok hk hki hkun hno => by
        refine hfree k ok hk hki ?_ hno
        by_cases hjk : j = k
        · subst hjk; exact hjun
        · rw [getD_set_ne true hjk] at hkun; exact hkun
      refine wpOp_mono (fun a' w' h3 => ⟨h3.2.1, ih (listed.setIfInBounds j true) a' w' (inv.set hj hjn) hfree' (ready_mono hr (Ne.symm hji)) h3.1 (h3.2.1 hjn) ?_⟩) h2
      rw [Array.setIfInBounds_comm _ _ hji]
      exact h3.2.2
theorem anyT_take {i : Nat} {oi : Oper} {v : Value} {fuel : Nat} {listed : Array Bool} {a : Act} {w : World} (hi : ops[i]? = some oi)
    (hs : Region.noSelect ops = true) (hsk : Region.sinkB md ops n = true) (hch : Region.chainB md ops n = true) (hn : n < ops.size) (hin : i < n)
    (hf : Region.free md ops listed i = true) (hr : (Region.ready md ops listed).contains i = true)
    (inv : HeadInv md ops n listed)
    (hQ : ∀ c a w, Q (.panic c) (a.put oi.dst v) w → Q (.panic c) a w) (hy : YieldsIf P ops S oi v a) (hS : S w)
    (h : HeadInv md ops n (listed.setIfInBounds i true) → anyT P md ops Q S n fuel (listed.setIfInBounds i true) (a.put oi.dst v) w) : anyT P md ops Q S n (fuel + 1) listed a w :=
  have hr' : i ∈ Region.ready md ops listed := by simpa using hr
  anyT_first hi (Region.noSelect_spec hs) hsk hch hn hin hQ fuel listed a w inv (Region.free_spec hi hf) hr' hy hS (h (inv.set hr' hin))
def ReadyT (P : Program) (md : Region.Mode) (ops : Array Oper) (Q : Exit → Act → World → Prop) (S : World → Prop) (n : Nat) (fuel : Nat) (listed : Array Bool) (a : Act) (w : World) (rs : List Nat) : Prop :=
  ∀ i ∈ rs, wpOp P ops Q i (fun a' w' => (i < n → S w') ∧ anyT P md ops Q S n fuel (listed.setIfInBounds i true) a' w') a w
theorem ReadyT.nil {fuel : Nat} {listed : Array Bool} {a : Act} {w : World} : ReadyT P md ops Q S n fuel listed a w [] := fun _ h => by cases h
theorem ReadyT.head {fuel : Nat} {listed : Array Bool} {a : Act} {w : World} {i : Nat} {o : Oper} {rs : List Nat} (ho : ops[i]? = some o) (hin : i < n) (hr : (Region.ready md ops listed).contains i = true)
    (inv : HeadInv md ops n listed)
    (h : ∀ K' : Act → World → Prop, Shut (∀ a w, S w → (S w → HeadInv md ops n (listed.setIfInBounds i true) → anyT P md ops Q S n fuel (listed.setIfInBounds i true) a w) → K' a w) → if Region.wanted o (yielded ops a.tmps) = true then Oper.wp P o a w K' Q else K' (a.put o.dst undef) w)
    (hs : ReadyT P md ops Q S n fuel listed a w rs) : ReadyT P md ops Q S n fuel listed a w (i :: rs) := fun j hj => by
  rcases List.mem_cons.1 hj with rfl | hj
  · have hr' : j ∈ Region.ready md ops listed := by simpa using hr
    exact wpOp_step ho (fun K' hK => h K' (fun a w hS hW => hK a w ⟨fun _ => hS, hW hS (inv.set hr' hin)⟩))
  · exact hs j hj
theorem ReadyT.tail {fuel : Nat} {listed : Array Bool} {a : Act} {w : World} {i : Nat} {o : Oper} (ho : ops[i]? = some o) (hin : n ≤ i)
    (h : ∀ K' : Act → World → Prop, Shut (∀ a w, anyT P md ops Q S n fuel (listed.setIfInBounds i true) a w → K' a w) → if Region.wanted o (yielded ops a.tmps) = true then Oper.wp P o a w K' Q else K' (a.put o.dst undef) w) :
    ReadyT P md ops Q S n fuel listed a w [i] := fun j hj => by
  obtain rfl : j = i := by simpa using hj
  exact wpOp_step ho (fun K' hK => h K' (fun a w hW => hK a w ⟨fun h0 => absurd h0 (by omega), hW⟩))
theorem anyT_ready {rs : List Nat} {fuel : Nat} {listed : Array Bool} {a : Act} {w : World} (hr : Region.ready md ops listed = rs) (hne : rs ≠ [])
    (h : ReadyT P md ops Q S n fuel listed a w rs) : anyT P md ops Q S n (fuel + 1) listed a w :=
  ⟨fun h0 => absurd (hr ▸ h0) hne, hr ▸ h⟩
theorem anyT_done {listed : Array Bool} {a : Act} {w : World} (hr : Region.ready md ops listed = []) (h : Q .normal a w) :
    ∀ fuel, anyT P md ops Q S n fuel listed a w
  | 0 => ⟨hr, h⟩
  | _ + 1 => ⟨fun _ => h, by rw [hr]; simp⟩
theorem head_start (n : Nat) : HeadInv md ops n (Array.replicate ops.size false) where
  size := by simp
  closed := fun j oj _ hl => by rw [getD_replicate_false] at hl; cases hl
  tail := fun t _ ht => by simp [ht]
theorem region_anyT {id : Nat} {a : Act} {w : World} (hm : P.follows .mixedOrders = true) (hS : S w.drew)
    (h : S w.drew → HeadInv .any ops n (Array.replicate ops.size false) → anyT P .any ops Q S n ops.size (Array.replicate ops.size false) a w.drew) : (Code.region id ops true).wp P Q a w :=
  wp_region_any hm (any_of_anyT _ _ _ _ (h hS (head_start n)))
end
end
section
open Go Go.RowKit
set_option maxRecDepth 100000
abbrev Env := List (Nat × Value)
def lk : Env → Nat → Value
  | [], _ => undef
  | p :: E, i => bif Nat.beq i p.1 then p.2 else lk E i
def sl (n : Nat) (E : Env) : Act := { tmps := Array.ofFn fun i : Fin n => lk E i.1, defers := [] }
def evl (n : Nat) (E : Env) : Operand → Value
  | .tmp i => bif Nat.blt i n then lk E i else undef
  | .const v => v
  | .global g => .pointer (some ⟨g, 0, none⟩)
  | .func f => .func (.func f) #[] #[]
theorem blt_t {i n : Nat} (h : i < n) : Nat.blt i n = true := Nat.ble_eq_true_of_le h
theorem blt_f {i n : Nat} (h : ¬ i < n) : Nat.blt i n = false := by
  cases hb : Nat.blt i n
  · rfl
  · exact absurd (Nat.le_of_ble_eq_true hb) h
theorem tmps_sl (n : Nat) (E : Env) (i : Nat) : (sl n E).tmps.getD i undef = bif Nat.blt i n then lk E i else undef := by
  unfold sl
  simp only [Array.getD_eq_getD_getElem?]
  by_cases h : i < n
  · rw [Array.getElem?_eq_getElem (by simpa using h), Array.getElem_ofFn]
    rw [blt_t h]; rfl
  · rw [Array.getElem?_eq_none (by simpa using h), blt_f h]; rfl
theorem eval_sl (n : Nat) (E : Env) : (sl n E).eval = evl n E := funext fun op => by
  cases op with
  | tmp i => exact tmps_sl n E i
  | const v => rfl
  | global g => rfl
  | func f => rfl
theorem lk_cons (d : Nat) (v : Value) (E : Env) (i : Nat) : lk ((d, v) :: E) i = if i = d then v else lk E i := by
  show (bif Nat.beq i d then v else lk E i) = _
  by_cases h : i = d
  · subst h; simp [Nat.beq_refl]
  · have : Nat.beq i d = false := by rw [Bool.eq_false_iff]; intro h2; exact h (Nat.eq_of_beq_eq_true h2)
    rw [this, if_neg h]; rfl
theorem put_sl (n d : Nat) (E : Env) (v : Value) : (sl n E).put (some d) v = sl n ((d, v) :: E) := by
  show ({ tmps := (Array.ofFn fun i : Fin n => lk E i.1).setIfInBounds d v, defers := [] } : Act) = { tmps := Array.ofFn fun i : Fin n => lk ((d, v) :: E) i.1, defers := [] }
  congr 1
  apply Array.ext
  · simp
  · intro i h1 h2
    have h3 : i < n := by simpa using h2
    rw [Array.getElem_setIfInBounds (by simpa using h3), Array.getElem_ofFn, Array.getElem_ofFn, lk_cons]
    by_cases e : d = i
    · subst e; simp
    · rw [if_neg e, if_neg (fun h => e h.symm)]
theorem sl_congr {n : Nat} {E E' : Env} (h : ∀ i, i < n → lk E i = lk E' i) : sl n E = sl n E' := by
  unfold sl
  congr 1
  apply Array.ext
  · simp
  · intro i h1 h2
    rw [Array.getElem_ofFn, Array.getElem_ofFn]
    exact h i (by simpa using h1)
def Kp : Env → Env → Prop
  | [], _ => True
  | p :: K, E => lk E p.1 = p.2 ∧ Kp K E
theorem lk_keep {E : Env} : ∀ {K : Env}, Kp K E → ∀ i, lk (K ++ E) i = lk E i
  | [], _, _ => rfl
  | p :: K, h, i => by
    obtain ⟨d, v⟩ := p
    show lk ((d, v) :: (K ++ E)) i = _
    rw [lk_cons]
    split
    · rename_i e; subst e; exact h.1.symm
    · exact lk_keep h.2 i
theorem sl_keep {n : Nat} {K E : Env} (h : Kp K E) : sl n E = sl n (K ++ E) := sl_congr fun i _ => (lk_keep h i).symm
def prs : Nat → List Value → Env
  | _, [] => []
  | k, v :: l => (k, v) :: prs (k + 1) l
theorem lk_prs : ∀ (l : List Value) (k i : Nat), lk (prs k l) i = if k ≤ i then l.getD (i - k) undef else undef
  | [], k, i => by unfold prs lk; simp
  | v :: l, k, i => by
    show lk ((k, v) :: prs (k + 1) l) i = _
    rw [lk_cons, lk_prs l (k + 1) i]
    by_cases e : i = k
    · subst e; simp
    · rw [if_neg e]
      by_cases h : k + 1 ≤ i
      · rw [if_pos h, if_pos (by omega), show i - k = (i - (k + 1)) + 1 by omega]; rfl
      · rw [if_neg h, if_neg (by omega)]
theorem sl_args (l : List Value) (n : Nat) (h : l.length ≤ n) : ({ tmps := l.toArray ++ Array.replicate (n - l.toArray.size) undef, defers := [] } : Act) = sl n (prs 0 l) := by
  unfold sl
  congr 1
  apply Array.ext
  · simp; omega
  · intro i h1 h2
    rw [Array.getElem_ofFn, lk_prs, if_pos (Nat.zero_le _), Nat.sub_zero]
    rcases Nat.lt_or_ge i l.length with hi | hi
    · rw [Array.getElem_append_left (by simpa using hi)]
      simp [List.getD_eq_getElem?_getD, hi]
    · rw [Array.getElem_append_right (by simpa using hi)]
      simp [List.getD_eq_getElem?_getD, List.getElem?_eq_none hi]
section
variable {P : Program} {Q : Exit → Act → World → Prop}
theorem calls_sl {f : FuncId} {fn : Func} {c : Code} {w : World} {R : Ending → World → Prop} {l : List Value} (n : Nat) (hf : P.funcs[f]? = some fn) (hb : fn.body = some c) (hn : fn.ntmps = n) (hl : l.length ≤ n)
    (h : c.wp P (bodyPost P fn R) (sl n (prs 0 l)) w) : Calls P f l.toArray w R := by
  refine calls_of_wp hf hb ?_
  rw [hn, sl_args l n hl]
  exact h
def yl (ops : Array Oper) (n : Nat) (E : Env) (j : Nat) : Option Bool :=
  match (ops[j]?).bind (·.dst) with
  | none => none
  | some d => bif Nat.blt d n then (match lk E d with | .bool b => some b | _ => none) else none
theorem yielded_sl (ops : Array Oper) (n : Nat) (E : Env) : yielded ops (sl n E).tmps = yl ops n E := funext fun j => by
  unfold yielded yl
  cases (ops[j]?).bind (·.dst) with
  | none => rfl
  | some d =>
    simp only [Option.bind_some]
    by_cases h : d < n
    · have e : (sl n E).tmps[d]? = some (lk E d) := by
        unfold sl
        rw [Array.getElem?_eq_getElem (by simpa using h), Array.getElem_ofFn]
      rw [e, blt_t h]
      show (match some (lk E d) with | some (Value.bool b) => some b | x => none) = (match lk E d with | .bool b => some b | _ => none)
      cases lk E d <;> rfl
    · have e : (sl n E).tmps[d]? = none := by unfold sl; exact Array.getElem?_eq_none (by simpa using h)
      rw [e, blt_f h]
      rfl
def wnt (ops : Array Oper) (n : Nat) (E : Env) (o : Oper) : Bool :=
  match o.guard with
  | none => true
  | some (j, b) => match yl ops n E j with | some c => c == b | none => false
theorem wanted_sl (ops : Array Oper) (n : Nat) (E : Env) (o : Oper) : Region.wanted o (yielded ops (sl n E).tmps) = wnt ops n E o := by
  rw [yielded_sl]
  unfold Region.wanted wnt
  cases o.guard with
  | none => rfl
  | some p =>
    obtain ⟨j, b⟩ := p
    show (yl ops n E j == some b) = (match yl ops n E j with | some c => c == b | none => false)
    cases yl ops n E j <;> rfl
theorem ret_sl {fn : Func} {R : Ending → World → Prop} {n t : Nat} {E : Env} {w : World} (v : Value) (hf : fn.results = #[.tmp t]) (hv : (bif Nat.blt t n then lk E t else undef) = v) (h : R (.returned v) w) : bodyPost P fn R .ret (sl n E) w := by
  refine bodyPost_ret (v := v) ?_ rfl h
  unfold results
  rw [hf]
  simp only [go_sem, List.mapM_toArray, List.mapM_cons, List.mapM_nil]
  have e := tmps_sl n E t
  rw [hv] at e
  rw [Array.getD_eq_getD_getElem?] at e
  simp [go_sem, e]
structure WL (P : Program) (ops : Array Oper) (Q : Exit → Act → World → Prop) (l : List Oper) (n : Nat) (E : Env) (w : World) : Prop where
  out : wpList P ops Q l (sl n E) w
theorem reg_lit {id : Nat} {l : List Oper} {n : Nat} {E : Env} {w : World} (h : WL P l.toArray Q l n E w) : (Code.region id l.toArray false).wp P Q (sl n E) w := wp_region_lit h.out
theorem wpl_end {ops : Array Oper} {n : Nat} {E : Env} {w : World} (h : Q .normal (sl n E) w) : WL P ops Q [] n E w := ⟨h⟩
theorem then_normal {next : Act → World → Prop} {a : Act} {w : World} (h : next a w) : Exit.then next Q .normal a w := h
theorem wpl_act {ops : Array Oper} {o : Oper} {rest : List Oper} {n : Nat} {E : Env} {w : World} (hw : wnt ops n E o = true) (h : o.wp P (sl n E) w (wpList P ops Q rest) Q) : WL P ops Q (o :: rest) n E w := by
  constructor
  unfold wpList
  rw [wanted_sl, hw]
  exact Or.inl h
theorem wpl_val {ops : Array Oper} {o : Oper} {rest : List Oper} {n d : Nat} {E : Env} {w w' : World} {v : Value} (hd : o.dst = some d) (hw : wnt ops n E o = true) (hr : (execOp (evl n E) o).run P w = .ok (.value v) w')
    (h : WL P ops Q rest n ((d, v) :: E) w') : WL P ops Q (o :: rest) n E w := by
  refine wpl_act hw ?_
  unfold Oper.wp
  rw [eval_sl, hr, Oper.upon_value, hd, put_sl]
  exact h.out
theorem wpl_none {ops : Array Oper} {o : Oper} {rest : List Oper} {n : Nat} {E : Env} {w w' : World} (hd : o.dst = none) (hw : wnt ops n E o = true) (hr : (execOp (evl n E) o).run P w = .ok .skip w')
    (h : WL P ops Q rest n E w') : WL P ops Q (o :: rest) n E w := by
  refine wpl_act hw ?_
  unfold Oper.wp
  rw [eval_sl, hr, Oper.upon_skip, hd]
  exact h.out
theorem wpl_off {ops : Array Oper} {o : Oper} {rest : List Oper} {n d : Nat} {E : Env} {w : World} (hd : o.dst = some d) (hw : wnt ops n E o = false)
    (h : WL P ops Q rest n ((d, undef) :: E) w) : WL P ops Q (o :: rest) n E w := by
  constructor
  unfold wpList
  rw [wanted_sl, hw, hd, put_sl]
  exact h.out
theorem wpl_call {ops : Array Oper} {o : Oper} {rest : List Oper} {n d : Nat} {E : Env} {w : World} {f : FuncId} {args : Array Value} (hd : o.dst = some d) (hw : wnt ops n E o = true) (hr : (execOp (evl n E) o).run P w = .ok (.enter f args) w)
    (hc : Calls P f args w fun e w' => ∃ v, e = .returned v ∧ WL P ops Q rest n ((d, v) :: E) w') : WL P ops Q (o :: rest) n E w := by
  refine wpl_act hw ?_
  unfold Oper.wp
  rw [eval_sl, hr, Oper.upon_enter]
  refine hc.mono ?_
  rintro e w' ⟨v, rfl, h⟩
  show wpList P ops Q rest ((sl n E).put o.dst v) w'
  rw [hd, put_sl]
  exact h.out
def runK (P : Program) (ops : Array Oper) (n : Nat) : Nat → List Oper → Env → World → Option (Env × World)
  | 0, _, E, w => some (E, w)
  | _ + 1, [], _, _ => none
  | k + 1, o :: os, E, w =>
    bif wnt ops n E o then
      match (execOp (evl n E) o).run P w with
      | .ok (.value v) w' => (match o.dst with | some d => runK P ops n k os ((d, v) :: E) w' | none => none)
      | _ => none
    else (match o.dst with | some d => runK P ops n k os ((d, undef) :: E) w | none => none)
theorem wpl_run {ops : Array Oper} {n : Nat} : ∀ (k : Nat) {os : List Oper} {E E' : Env} {w w' : World}, runK P ops n k os E w = some (E', w') → WL P ops Q (os.drop k) n E' w' → WL P ops Q os n E w
  | 0, os, E, E', w, w', hr, h => by
    unfold runK at hr
    simp only [Option.some.injEq, Prod.mk.injEq] at hr
    obtain ⟨rfl, rfl⟩ := hr
    exact h
  | k + 1, [], E, E', w, w', hr, h => by unfold runK at hr; cases hr
  | k + 1, o :: os, E, E', w, w', hr, h => by
    unfold runK at hr
    cases hw : wnt ops n E o
    · rw [hw] at hr
      simp only [cond_false] at hr
      cases hd : o.dst with
      | none => rw [hd] at hr; cases hr
      | some d =>
        rw [hd] at hr
        exact wpl_off hd hw (wpl_run k hr h)
    · rw [hw] at hr
      simp only [cond_true] at hr
      cases he : (execOp (evl n E) o).run P w with
      | halt x y => rw [he] at hr; cases hr
      | ok x y =>
        cases x with
        | value v =>
          rw [he] at hr
          cases hd : o.dst with
          | none => rw [hd] at hr; cases hr
          | some d =>
            rw [hd] at hr
            exact wpl_val hd hw he (wpl_run k hr h)
        | _ => rw [he] at hr; cases hr
theorem wpl_r1 {ops : Array Oper} {n : Nat} {o0 : Oper} {rest : List Oper} {E : Env} {w : World} (N : Env) (hr : runK P ops n 1 (o0 :: rest) E w = some (N ++ E, w)) (h : WL P ops Q rest n (N ++ E) w) : WL P ops Q (o0 :: rest) n E w := wpl_run (k := 1) hr h
theorem wpl_r2 {ops : Array Oper} {n : Nat} {o0 o1 : Oper} {rest : List Oper} {E : Env} {w : World} (N : Env) (hr : runK P ops n 2 (o0 :: o1 :: rest) E w = some (N ++ E, w)) (h : WL P ops Q rest n (N ++ E) w) : WL P ops Q (o0 :: o1 :: rest) n E w := wpl_run (k := 2) hr h
theorem wpl_r3 {ops : Array Oper} {n : Nat} {o0 o1 o2 : Oper} {rest : List Oper} {E : Env} {w : World} (N : Env) (hr : runK P ops n 3 (o0 :: o1 :: o2 :: rest) E w = some (N ++ E, w)) (h : WL P ops Q rest n (N ++ E) w) : WL P ops Q (o0 :: o1 :: o2 :: rest) n E w := wpl_run (k := 3) hr h
theorem wpl_r4 {ops : Array Oper} {n : Nat} {o0 o1 o2 o3 : Oper} {rest : List Oper} {E : Env} {w : World} (N : Env) (hr : runK P ops n 4 (o0 :: o1 :: o2 :: o3 :: rest) E w = some (N ++ E, w)) (h : WL P ops Q rest n (N ++ E) w) : WL P ops Q (o0 :: o1 :: o2 :: o3 :: rest) n E w := wpl_run (k := 4) hr h
theorem wpl_r5 {ops : Array Oper} {n : Nat} {o0 o1 o2 o3 o4 : Oper} {rest : List Oper} {E : Env} {w : World} (N : Env) (hr : runK P ops n 5 (o0 :: o1 :: o2 :: o3 :: o4 :: rest) E w = some (N ++ E, w)) (h : WL P ops Q rest n (N ++ E) w) : WL P ops Q (o0 :: o1 :: o2 :: o3 :: o4 :: rest) n E w := wpl_run (k := 5) hr h
theorem wpl_r6 {ops : Array Oper} {n : Nat} {o0 o1 o2 o3 o4 o5 : Oper} {rest : List Oper} {E : Env} {w : World} (N : Env) (hr : runK P ops n 6 (o0 :: o1 :: o2 :: o3 :: o4 :: o5 :: rest) E w = some (N ++ E, w)) (h : WL P ops Q rest n (N ++ E) w) : WL P ops Q (o0 :: o1 :: o2 :: o3 :: o4 :: o5 :: rest) n E w := wpl_run (k := 6) hr h
theorem wpl_r7 {ops : Array Oper} {n : Nat} {o0 o1 o2 o3 o4 o5 o6 : Oper} {rest : List Oper} {E : Env} {w : World} (N : Env) (hr : runK P ops n 7 (o0 :: o1 :: o2 :: o3 :: o4 :: o5 :: o6 :: rest) E w = some (N ++ E, w)) (h : WL P ops Q rest n (N ++ E) w) : WL P ops Q (o0 :: o1 :: o2 :: o3 :: o4 :: o5 :: o6 :: rest) n E w := wpl_run (k := 7) hr h
theorem wpl_r12 {ops : Array Oper} {n : Nat} {o0 o1 o2 o3 o4 o5 o6 o7 o8 o9 o10 o11 : Oper} {rest : List Oper} {E : Env} {w : World} (N : Env) (hr : runK P ops n 12 (o0 :: o1 :: o2 :: o3 :: o4 :: o5 :: o6 :: o7 :: o8 :: o9 :: o10 :: o11 :: rest) E w = some (N ++ E, w)) (h : WL P ops Q rest n (N ++ E) w) : WL P ops Q (o0 :: o1 :: o2 :: o3 :: o4 :: o5 :: o6 :: o7 :: o8 :: o9 :: o10 :: o11 :: rest) n E w := wpl_run (k := 12) hr h
theorem wpl_r15 {ops : Array Oper} {n : Nat} {o0 o1 o2 o3 o4 o5 o6 o7 o8 o9 o10 o11 o12 o13 o14 : Oper} {rest : List Oper} {E : Env} {w : World} (N : Env) (hr : runK P ops n 15 (o0 :: o1 :: o2 :: o3 :: o4 :: o5 :: o6 :: o7 :: o8 :: o9 :: o10 :: o11 :: o12 :: o13 :: o14 :: rest) E w = some (N ++ E, w)) (h : WL P ops Q rest n (N ++ E) w) : WL P ops Q (o0 :: o1 :: o2 :: o3 :: o4 :: o5 :: o6 :: o7 :: o8 :: o9 :: o10 :: o11 :: o12 :: o13 :: o14 :: rest) n E w := wpl_run (k := 15) hr h
theorem wpl_r16 {ops : Array Oper} {n : Nat} {o0 o1 o2 o3 o4 o5 o6 o7 o8 o9 o10 o11 o12 o13 o14 o15 : Oper} {rest : List Oper} {E : Env} {w : World} (N : Env) (hr : runK P ops n 16 (o0 :: o1 :: o2 :: o3 :: o4 :: o5 :: o6 :: o7 :: o8 :: o9 :: o10 :: o11 :: o12 :: o13 :: o14 :: o15 :: rest) E w = some (N ++ E, w)) (h : WL P ops Q rest n (N ++ E) w) : WL P ops Q (o0 :: o1 :: o2 :: o3 :: o4 :: o5 :: o6 :: o7 :: o8 :: o9 :: o10 :: o11 :: o12 :: o13 :: o14 :: o15 :: rest) n E w := wpl_run (k := 16) hr h
theorem sw_f {id k : Nat} {l : List Oper} {c : Operand} {x y : Code} {n : Nat} {E : Env} {w : World} (N : Env) (hk : l.length = k) (hr : runK P l.toArray n k l E w = some (N ++ E, w)) (hc : evl n (N ++ E) c = .bool false) (h : y.wp P Q (sl n (N ++ E)) w) : (Code.seq (Code.region id l.toArray false) (Code.cond c x y)).wp P Q (sl n E) w := by
  refine wp_seq (reg_lit (wpl_run k hr ?_))
  rw [← hk, List.drop_length]
  exact wpl_end (wp_cond_false (by rw [eval_sl]; exact hc) h)
theorem sw_t {id k : Nat} {l : List Oper} {c : Operand} {x y : Code} {n : Nat} {E : Env} {w : World} (N : Env) (hk : l.length = k) (hr : runK P l.toArray n k l E w = some (N ++ E, w)) (hc : evl n (N ++ E) c = .bool true) (h : x.wp P Q (sl n (N ++ E)) w) : (Code.seq (Code.region id l.toArray false) (Code.cond c x y)).wp P Q (sl n E) w := by
  refine wp_seq (reg_lit (wpl_run k hr ?_))
  rw [← hk, List.drop_length]
  exact wpl_end (wp_cond_true (by rw [eval_sl]; exact hc) h)
theorem sx_n {ops : Array Oper} {id : Nat} {l : List Oper} {c : Code} {R R' : Exit → Act → World → Prop} {n : Nat} {E : Env} {w : World} (h : WL P l.toArray (Exit.then (fun a w => c.wp P R' a w) R') l n E w) : WL P ops (Exit.then (fun a w => (Code.seq (Code.region id l.toArray false) c).wp P R' a w) R) [] n E w :=
  wpl_end (then_normal (wp_seq (reg_lit h)))
theorem wp_ift {c : Operand} {x y : Code} {n : Nat} {E : Env} {w : World} (hc : evl n E c = .bool true) (h : x.wp P Q (sl n E) w) : (Code.cond c x y).wp P Q (sl n E) w := wp_cond_true (by rw [eval_sl]; exact hc) h
theorem wp_iff {c : Operand} {x y : Code} {n : Nat} {E : Env} {w : World} (hc : evl n E c = .bool false) (h : y.wp P Q (sl n E) w) : (Code.cond c x y).wp P Q (sl n E) w := wp_cond_false (by rw [eval_sl]; exact hc) h
theorem exit_here {id : Nat} {R : Exit → Act → World → Prop} {a : Act} {w : World} (h : R .normal a w) : Exit.inBlock id R (.exit id) a w := by show (if id = id then R .normal a w else R (.exit id) a w); rw [if_pos rfl]; exact h
theorem then_exit {j : Nat} {next : Act → World → Prop} {a : Act} {w : World} (h : Q (.exit j) a w) : Exit.then next Q (.exit j) a w := h
theorem block_normal {id : Nat} {R : Exit → Act → World → Prop} {a : Act} {w : World} (h : R .normal a w) : Exit.inBlock id R .normal a w := h
theorem wp_keep {c : Code} {n : Nat} {E : Env} {w : World} (K : Env) (hk : Kp K E) (h : ∀ X : Env, c.wp P Q (sl n (K ++ X)) w) : c.wp P Q (sl n E) w := by
  rw [sl_keep hk]; exact h E
end
end
section
def bt (l : List Bool) (i : Nat) : Bool := l.getD i false
def bl (n : Nat) (f : Nat → Bool) : List Bool := (List.range n).map f
def nf (f : Nat → Bool) : Nat → Nat
  | 0 => 0
  | n + 1 => nf f n + 2 ^ n * (f n).toNat
theorem nf_succ (f : Nat → Bool) (n : Nat) : nf f (n + 1) = nf f n + 2 ^ n * (f n).toNat := rfl
def nv (l : List Bool) : Nat := nf (bt l) l.length
def zb (z : Int) (i : Nat) : Bool := decide (z / 2 ^ i % 2 = 1)
def vz (w : Nat) (z : Int) : List Bool := bl w (zb z)
theorem bl_length (n : Nat) (f : Nat → Bool) : (bl n f).length = n := by simp [bl]
theorem vz_length (n : Nat) (z : Int) : (vz n z).length = n := bl_length _ _
theorem bt_bl (n : Nat) (f : Nat → Bool) (i : Nat) : bt (bl n f) i = (decide (i < n) && f i) := by
  unfold bt bl
  rw [List.getD_eq_getElem?_getD, List.getElem?_map]
  by_cases h : i < n
  · rw [List.getElem?_range h]; simp [h]
  · rw [List.getElem?_eq_none (by simpa using h)]; simp [h]
theorem bt_bl_lt {n : Nat} {f : Nat → Bool} {i : Nat} (h : i < n) : bt (bl n f) i = f i := by rw [bt_bl]; simp [h]
theorem bt_ge {l : List Bool} {i : Nat} (h : l.length ≤ i) : bt l i = false := by
  unfold bt; rw [List.getD_eq_getElem?_getD, List.getElem?_eq_none h]; rfl
theorem bt_get {l : List Bool} {i : Nat} (h : i < l.length) : bt l i = l[i] := by
  unfold bt; rw [List.getD_eq_getElem?_getD, List.getElem?_eq_getElem h]; rfl
theorem list_ext {l m : List Bool} (h : l.length = m.length) (k : ∀ i, i < l.length → bt l i = bt m i) : l = m := by
  apply List.ext_getElem h
  intro i h1 h2
  have := k i h1
  rw [bt_get h1, bt_get h2] at this
  exact this
theorem bl_congr {n : Nat} {f g : Nat → Bool} (h : ∀ i, i < n → f i = g i) : bl n f = bl n g :=
  list_ext (by rw [bl_length, bl_length]) fun i hi => by rw [bl_length] at hi; rw [bt_bl_lt hi, bt_bl_lt hi, h i hi]
theorem eq_bl {l : List Bool} {n : Nat} {f : Nat → Bool} (hl : l.length = n) (h : ∀ i, i < n → bt l i = f i) : l = bl n f :=
  list_ext (by rw [bl_length, hl]) fun i hi => by rw [bt_bl_lt (by omega)]; exact h i (by omega)
theorem toNat_01 (b : Bool) : b.toNat = 0 ∨ b.toNat = 1 := by cases b <;> simp
theorem nf_congr {f g : Nat → Bool} {n : Nat} (h : ∀ i, i < n → f i = g i) : nf f n = nf g n := by
  induction n with
  | zero => rfl
  | succ n ih => unfold nf; rw [ih fun i hi => h i (by omega), h n (by omega)]
theorem nf_lt (f : Nat → Bool) (n : Nat) : nf f n < 2 ^ n := by
  induction n with
  | zero => simp [nf]
  | succ n ih =>
    unfold nf
    rw [Nat.pow_succ]
    rcases toNat_01 (f n) with h | h <;> rw [h] <;> omega
theorem nf_inj {f g : Nat → Bool} {n : Nat} (h : nf f n = nf g n) : ∀ i, i < n → f i = g i := by
  induction n with
  | zero => intro i hi; omega
  | succ n ih =>
    unfold nf at h
    have a := nf_lt f n
    have b := nf_lt g n
    have e : (f n).toNat = (g n).toNat ∧ nf f n = nf g n := by
      rcases toNat_01 (f n) with h1 | h1 <;> rcases toNat_01 (g n) with h2 | h2 <;> rw [h1, h2] at h ⊢ <;> constructor <;> omega
    intro i hi
    by_cases hn : i = n
    · subst hn
      have := e.1
      cases hf : f i <;> cases hg : g i <;> simp_all
    · exact ih e.2 i (by omega)
theorem nv_lt (l : List Bool) : nv l < 2 ^ l.length := nf_lt _ _
theorem nv_bl (n : Nat) (f : Nat → Bool) : nv (bl n f) = nf f n := by
  unfold nv
  rw [bl_length]
  exact nf_congr fun i hi => bt_bl_lt hi
theorem nv_inj {l m : List Bool} (h : l.length = m.length) (k : nv l = nv m) : l = m := by
  unfold nv at k
  rw [← h] at k
  exact list_ext h (nf_inj k)
theorem nf_zb (z : Int) (n : Nat) : (nf (zb z) n : Int) = z % 2 ^ n := by
  induction n with
  | zero => simp [nf, Int.emod_one]
  | succ n ih =>
    unfold nf
    rw [Int.natCast_add, ih, Int.natCast_mul]
    have h2 : (0 : Int) < 2 ^ n := Int.pow_pos (by decide)
    have e : ((zb z n).toNat : Int) = z / 2 ^ n % 2 := by
      unfold zb
      by_cases h : z / 2 ^ n % 2 = 1
      · simp [h]
      · have : z / 2 ^ n % 2 = 0 := by omega
        simp [this]
    rw [e]
    rw [Int.pow_succ]
    have p : ((2 ^ n : Nat) : Int) = (2 : Int) ^ n := by simp
    rw [p]
    have k1 := Int.emod_add_mul_ediv z (2 ^ n)
    have k2 := Int.emod_add_mul_ediv (z / 2 ^ n) 2
    have k3 : z / 2 ^ n / 2 = z / (2 ^ n * 2) := Int.ediv_ediv_of_nonneg (Int.le_of_lt h2)
    have k4 := Int.emod_add_mul_ediv z (2 ^ n * 2)
    rw [k3] at k2
    have k5 : (2 : Int) ^ n * (z / 2 ^ n % 2 + 2 * (z / (2 ^ n * 2))) = 2 ^ n * (z / 2 ^ n) := by rw [k2]
    rw [Int.mul_add, ← Int.mul_assoc] at k5
    omega
theorem nv_vz (w : Nat) (z : Int) : (nv (vz w z) : Int) = z % 2 ^ w := by
  unfold vz; rw [nv_bl]; exact nf_zb z w
theorem vz_eq {w : Nat} {y z : Int} (h : y % 2 ^ w = z % 2 ^ w) : vz w y = vz w z := by
  apply nv_inj (by rw [vz_length, vz_length])
  have a := nv_vz w y
  have b := nv_vz w z
  omega
theorem vz_nv (l : List Bool) : vz l.length (nv l) = l := by
  apply nv_inj (vz_length _ _)
  have a := nv_vz l.length (nv l)
  have b := nv_lt l
  have d : ((2 ^ l.length : Nat) : Int) = (2 : Int) ^ l.length := by simp
  have c : ((nv l : Int)) % 2 ^ l.length = nv l := Int.emod_eq_of_lt (by omega) (by omega)
  omega
theorem eq_vz {l : List Bool} {w : Nat} {z : Int} (hl : l.length = w) (h : (nv l : Int) % 2 ^ w = z % 2 ^ w) : l = vz w z := by
  rw [← vz_eq h, ← hl, vz_nv]
theorem two_pos (w : Nat) : (0 : Int) < 2 ^ w := Int.pow_pos (by decide)
theorem two_cast (w : Nat) : ((2 ^ w : Nat) : Int) = (2 : Int) ^ w := by simp
theorem nv_vz_of {w : Nat} {z : Int} (h0 : 0 ≤ z) (h : z < 2 ^ w) : (nv (vz w z) : Int) = z := by
  rw [nv_vz, Int.emod_eq_of_lt h0 h]
theorem nv_vz_nat {w n : Nat} (h : n < 2 ^ w) : nv (vz w n) = n := by
  have := nv_vz_of (w := w) (z := n) (by omega) (by rw [← two_cast]; omega)
  omega
def ng (l : List Bool) : Bool := decide (0 < l.length) && bt l (l.length - 1)
def sv (l : List Bool) : Int := if ng l then (nv l : Int) - 2 ^ l.length else nv l
theorem ng_iff (l : List Bool) : ng l = true ↔ 0 < l.length ∧ 2 ^ (l.length - 1) ≤ nv l := by
  unfold ng
  rcases Nat.eq_zero_or_pos l.length with h | h
  · simp [h]
  · obtain ⟨n, hn⟩ : ∃ n, l.length = n + 1 := ⟨l.length - 1, by omega⟩
    have e : nv l = nf (bt l) n + 2 ^ n * (bt l n).toNat := by unfold nv; rw [hn]; rfl
    have k := nf_lt (bt l) n
    rw [hn, e]
    simp only [Nat.add_sub_cancel, Nat.zero_lt_succ, decide_true, Bool.true_and, true_and]
    cases bt l n <;> simp <;> omega
theorem sv_mod (l : List Bool) : sv l % 2 ^ l.length = nv l % 2 ^ l.length := by
  unfold sv
  split
  · rw [Int.sub_emod, Int.emod_self, Int.sub_zero, Int.emod_emod]
  · rfl
theorem sv_nil {l : List Bool} (h : l.length = 0) : sv l = 0 := by
  have := nv_lt l
  rw [h] at this
  unfold sv ng
  rw [h]; simp at this ⊢; omega
theorem sv_bd {l : List Bool} {w : Nat} (h : l.length = w + 1) : -2 ^ w ≤ sv l ∧ sv l < 2 ^ w ∧ (ng l = true ↔ sv l < 0) := by
  have a := ng_iff l
  have b := nv_lt l
  have c : ((2 ^ w : Nat) : Int) = (2 : Int) ^ w := by simp
  have d : (2 : Int) ^ (w + 1) = 2 * 2 ^ w := by rw [Int.pow_succ]; omega
  have e : (2 : Nat) ^ (w + 1) = 2 * 2 ^ w := by rw [Nat.pow_succ]; omega
  rw [h] at a b
  simp only [Nat.add_sub_cancel] at a
  unfold sv
  rw [h]
  cases hn : ng l
  · have : ¬ (0 < w + 1 ∧ 2 ^ w ≤ nv l) := fun x => by rw [a.2 x] at hn; cases hn
    simp; omega
  · have := a.1 hn
    simp; omega
def mg (l : List Bool) : Nat := (sv l).natAbs
theorem mg_lt (l : List Bool) : mg l < 2 ^ l.length ∨ l.length = 0 ∧ mg l = 0 := by
  rcases Nat.eq_zero_or_pos l.length with h | h
  · right; exact ⟨h, by unfold mg; rw [sv_nil h]; rfl⟩
  · left
    obtain ⟨n, hn⟩ : ∃ n, l.length = n + 1 := ⟨l.length - 1, by omega⟩
    have k := sv_bd hn
    rw [hn]
    have c : ((2 ^ n : Nat) : Int) = (2 : Int) ^ n := by simp
    have e : (2 : Nat) ^ (n + 1) = 2 * 2 ^ n := by rw [Nat.pow_succ]; omega
    unfold mg
    omega
theorem mg_lt' (l : List Bool) : mg l < 2 ^ l.length := by
  rcases mg_lt l with h | ⟨h, k⟩
  · exact h
  · rw [h, k]; decide
theorem nf_stop {f : Nat → Bool} {n : Nat} (h : ∀ i, n ≤ i → f i = false) (m : Nat) (hm : n ≤ m) : nf f m = nf f n := by
  induction m with
  | zero => have : n = 0 := by omega
            subst this; rfl
  | succ m ih =>
    by_cases e : n = m + 1
    · subst e; rfl
    · rw [nf_succ, ih (by omega), h m (by omega)]; simp
theorem nf_bt {l : List Bool} {m : Nat} (hm : l.length ≤ m) : nf (bt l) m = nv l := nf_stop (fun _ h => bt_ge h) m hm
theorem nf_mod (f : Nat → Bool) (n m : Nat) (h : n ≤ m) : nf f m % 2 ^ n = nf f n := by
  induction m with
  | zero => have : n = 0 := by omega
            subst this; rfl
  | succ m ih =>
    by_cases e : n = m + 1
    · subst e; exact Nat.mod_eq_of_lt (nf_lt _ _)
    · obtain ⟨k, rfl⟩ : ∃ k, m = n + k := ⟨m - n, by omega⟩
      rw [nf_succ, Nat.pow_add, Nat.mul_assoc, Nat.add_mul_mod_self_left]
      exact ih (by omega)
theorem nf_bt_mod (l : List Bool) (n : Nat) : nf (bt l) n = nv l % 2 ^ n := by
  rcases Nat.le_total l.length n with h | h
  · rw [nf_bt h, Nat.mod_eq_of_lt (Nat.lt_of_lt_of_le (nv_lt l) (Nat.pow_le_pow_right (by decide) h))]
  · exact (nf_mod (bt l) n l.length h).symm
end
section
def cy (c : Bool) (f g : Nat → Bool) : Nat → Bool
  | 0 => c
  | i + 1 => (f i && g i) || ((f i != g i) && cy c f g i)
def sb (c : Bool) (f g : Nat → Bool) (i : Nat) : Bool := f i != (g i != cy c f g i)
theorem nf_sb (c : Bool) (f g : Nat → Bool) (n : Nat) : nf (sb c f g) n + 2 ^ n * (cy c f g n).toNat = nf f n + nf g n + c.toNat := by
  induction n with
  | zero => simp [nf, cy]
  | succ n ih =>
    have e : (sb c f g n).toNat + 2 * (cy c f g (n + 1)).toNat = (f n).toNat + (g n).toNat + (cy c f g n).toNat := by
      unfold sb
      show _ + 2 * ((f n && g n) || ((f n != g n) && cy c f g n)).toNat = _
      cases f n <;> cases g n <;> cases cy c f g n <;> rfl
    rw [nf_succ, nf_succ, nf_succ, Nat.pow_succ]
    have k := congrArg (2 ^ n * ·) e
    simp only [Nat.mul_add] at k
    rw [Nat.mul_assoc (2 ^ n) 2]
    omega
theorem nf_not (g : Nat → Bool) (n : Nat) : nf (fun i => !g i) n + nf g n + 1 = 2 ^ n := by
  induction n with
  | zero => simp [nf]
  | succ n ih =>
    rw [nf_succ, nf_succ, Nat.pow_succ]
    cases g n <;> simp <;> omega
theorem emod_of_nat {a b m : Nat} {y z : Int} (h : (a : Int) = y) (k : (b : Int) = z) (e : a % m = b % m) : y % (m : Int) = z % (m : Int) := by
  subst h; subst k; exact_mod_cast e
theorem add_spec (a b : List Bool) : bl a.length (sb false (bt a) (bt b)) = vz a.length ((nv a : Int) + nv b) := by
  refine eq_vz (bl_length _ _) ?_
  rw [nv_bl]
  have h := nf_sb false (bt a) (bt b) a.length
  rw [nf_bt_mod b] at h
  have h1 : nf (bt a) a.length = nv a := rfl
  rw [h1] at h
  simp only [Bool.toNat_false, Nat.add_zero] at h
  rw [← two_cast]
  generalize 2 ^ a.length = m at *
  have k : nf (sb false (bt a) (bt b)) a.length % m = (nv a + nv b) % m := by
    have := congrArg (· % m) h
    simp only [Nat.add_mul_mod_self_left] at this
    rw [this, Nat.add_mod_mod]
  exact emod_of_nat rfl (by simp) k
theorem sub_spec (a b : List Bool) : bl a.length (sb true (bt a) (fun i => !bt b i)) = vz a.length ((nv a : Int) - nv b) := by
  refine eq_vz (bl_length _ _) ?_
  rw [nv_bl]
  have h := nf_sb true (bt a) (fun i => !bt b i) a.length
  have k := nf_not (bt b) a.length
  rw [nf_bt_mod b] at k
  have h1 : nf (bt a) a.length = nv a := rfl
  rw [h1] at h
  simp only [Bool.toNat_true] at h
  have d := Nat.mod_add_div (nv b) (2 ^ a.length)
  rw [← two_cast]
  generalize 2 ^ a.length = m at *
  generalize nf (fun i => !bt b i) a.length = x at *
  generalize nf (sb true (bt a) fun i => !bt b i) a.length = s at *
  generalize (cy true (bt a) (fun i => !bt b i) a.length).toNat = c at *
  have e : (s : Int) = (nv a : Int) - nv b + (m : Int) * (1 - (c : Int) + (nv b / m : Nat)) := by
    have h' : (s : Int) + m * c = nv a + x + 1 := by exact_mod_cast h
    have k' : (x : Int) + (nv b % m : Nat) + 1 = m := by exact_mod_cast k
    have d' : ((nv b % m : Nat) : Int) + m * (nv b / m : Nat) = nv b := by exact_mod_cast d
    rw [Int.mul_add, Int.mul_sub, Int.mul_one]
    omega
  rw [e, Int.add_mul_emod_self_left]
def cmp (x y : Int) : Int := if x < y then -1 else if y < x then 1 else 0
def og (f g : Nat → Bool) : Nat → Int
  | 0 => 0
  | i + 1 => if f i && !g i then 1 else if g i && !f i then -1 else og f g i
theorem og_spec (f g : Nat → Bool) (n : Nat) : og f g n = cmp (nf f n) (nf g n) := by
  induction n with
  | zero => simp [og, nf, cmp]
  | succ n ih =>
    have a := nf_lt f n
    have b := nf_lt g n
    unfold og
    rw [ih, nf_succ, nf_succ]
    unfold cmp
    generalize 2 ^ n = m at *
    cases f n <;> cases g n <;> simp <;> (try split) <;> (try split) <;> (try omega) <;> (repeat (split)) <;> omega
theorem cmp_eq_zero {x y : Int} : cmp x y = 0 ↔ x = y := by unfold cmp; split <;> (try split) <;> simp <;> omega
theorem cmp_lt {x y : Int} : cmp x y < 0 ↔ x < y := by unfold cmp; split <;> (try split) <;> simp <;> omega
theorem cmp_nn {x y : Int} : 0 ≤ cmp x y ↔ y ≤ x := by unfold cmp; split <;> (try split) <;> simp <;> omega
def ex (l : List Bool) (b : Bool) (i : Nat) : Bool := if i < l.length then bt l i else b
theorem ex_false (l : List Bool) : ex l false = bt l := by
  funext i; unfold ex; split
  · rfl
  · rw [bt_ge (by omega)]
theorem nf_ex_true (l : List Bool) (n : Nat) (h : l.length ≤ n) : (nf (ex l true) n : Int) = 2 ^ n - 2 ^ l.length + nv l := by
  induction n with
  | zero => have : l.length = 0 := by omega
            have k := nv_lt l
            rw [this] at k ⊢
            simp [nf] at k ⊢; omega
  | succ n ih =>
    by_cases e : l.length = n + 1
    · rw [← e]
      have : nf (ex l true) l.length = nv l := nf_congr fun i hi => by unfold ex; rw [if_pos hi]
      rw [this]; omega
    · rw [nf_succ]
      have : ex l true n = true := by unfold ex; rw [if_neg (by omega)]
      rw [this, Int.natCast_add, ih (by omega), Int.pow_succ]
      have p : ((2 ^ n * true.toNat : Nat) : Int) = 2 ^ n := by simp
      rw [p]; omega
theorem ucmp_spec (a b : List Bool) (n : Nat) (h : a.length ≤ n) (k : b.length ≤ n) : og (ex a false) (ex b false) n = cmp (nv a) (nv b) := by
  rw [og_spec, ex_false, ex_false, nf_bt h, nf_bt k]
theorem scmp_spec (a b : List Bool) (n : Nat) (h : a.length ≤ n) (k : b.length ≤ n) (e : ng a = ng b) : og (ex a (ng a)) (ex b (ng b)) n = cmp (sv a) (sv b) := by
  rw [og_spec]
  unfold sv
  rw [← e]
  cases ng a
  · rw [ex_false, ex_false, nf_bt h, nf_bt k]; simp
  · rw [nf_ex_true a n h, nf_ex_true b n k]; simp; unfold cmp; split <;> (try split) <;> (try split) <;> (try split) <;> omega
theorem sv_neg {l : List Bool} (h : ng l = true) : sv l < 0 := by
  have k := (ng_iff l).1 h
  obtain ⟨n, hn⟩ : ∃ n, l.length = n + 1 := ⟨l.length - 1, by omega⟩
  exact (sv_bd hn).2.2.1 h
theorem sv_nn {l : List Bool} (h : ng l = false) : 0 ≤ sv l := by unfold sv; rw [h]; simp
theorem scmp_lt {a b : List Bool} (h : ng a = true) (k : ng b = false) : cmp (sv a) (sv b) = -1 := by
  have := sv_neg h; have := sv_nn k; unfold cmp; rw [if_pos (by omega)]
theorem scmp_gt {a b : List Bool} (h : ng a = false) (k : ng b = true) : cmp (sv a) (sv b) = 1 := by
  have := sv_nn h; have := sv_neg k; unfold cmp; rw [if_neg (by omega), if_pos (by omega)]
end
section
open Go.RowKit
set_option maxRecDepth 100000
theorem hide {p : Prop} (h : p) : Hid p := h
def Rd (w : World) (A : Option Addr) (l : List Bool) : Prop :=
  0 < l.length → ∃ ad, A = some ad ∧ ad.block < w.heap.size ∧ ∀ i, i < l.length → w.cell? (ad.add i) = some (.bool (bt l i))
def RowF (w : World) (g n : Nat) (F : Nat → Bool) : Prop := ∃ cs : Array Value, w.heap[g]? = some (.cells cs 4 (0, 0)) ∧ ∀ i, i < n → cs[i]? = some (.bool (F i))
def Own (B : Nat) (w : World) (A : Option Addr) (l : List Bool) : Prop :=
  0 < l.length → ∃ g, A = some ⟨g, 0, none⟩ ∧ B ≤ g ∧ RowF w g l.length (bt l)
section
variable {w w' : World} {g n : Nat} {F G : Nat → Bool}
theorem RowF.lt (h : RowF w g n F) : g < w.heap.size := by
  obtain ⟨cs, hg, _⟩ := h
  exact lt_of_block hg
theorem RowF.cell (h : RowF w g n F) {i : Nat} (hi : i < n) : w.cell? ⟨g, i, none⟩ = some (.bool (F i)) := by
  obtain ⟨cs, hg, hc⟩ := h
  rw [cell_of_row w g i _ _ _ hg]
  exact hc i hi
theorem RowF.free (h : RowF w g n F) (i : Nat) : w.frozen? ⟨g, i, none⟩ = false := by
  obtain ⟨cs, hg, hc⟩ := h
  exact frozen_of_row w g i _ _ hg
theorem RowF.congr (h : RowF w g n F) (k : ∀ i, i < n → F i = G i) : RowF w g n G := by
  obtain ⟨cs, hg, hc⟩ := h
  exact ⟨cs, hg, fun i hi => by rw [hc i hi, k i hi]⟩
theorem RowF.set_ (h : RowF w g n F) (i : Nat) (v : Bool) : RowF (w.setCell ⟨g, i, none⟩ (.bool v)) g n (fun j => if j = i then v else F j) := by
  obtain ⟨cs, hg, hc⟩ := h
  refine ⟨_, heap_setCell_same w g i cs _ _ hg, fun j hj => ?_⟩
  have hjs : j < cs.size := by
    rcases Nat.lt_or_ge j cs.size with h1 | h1
    · exact h1
    · have := hc j hj; rw [Array.getElem?_eq_none h1] at this; cases this
  by_cases e : j = i
  · subst e; simp [hjs]
  · rw [Array.getElem?_setIfInBounds_ne (by omega), hc j hj]; simp [e]
theorem RowF.far (h : RowF w g n F) {p : Addr} (hp : g ≠ p.block) (u : Value) : RowF (w.setCell p u) g n F := by
  obtain ⟨cs, hg, hc⟩ := h
  exact ⟨cs, by rw [heap_setCell_other w p g u hp]; exact hg, hc⟩
theorem RowF.alloc (h : RowF w g n F) (o : Obj) : RowF (w.alloc o) g n F := by
  have hlt := h.lt
  obtain ⟨cs, hg, hc⟩ := h
  exact ⟨cs, (Below.heap_alloc w o g hlt).trans hg, hc⟩
theorem RowF.drew (h : RowF w g n F) : RowF w.drew g n F := h
theorem RowF.drewN (h : RowF w g n F) (k : Nat) : RowF (w.drewN k) g n F := h
theorem RowF.below (h : RowF w g n F) {B : Nat} (hb : Below B w w') (hB : g < B) : RowF w' g n F := by
  obtain ⟨cs, hg, hc⟩ := h
  exact ⟨cs, by rw [hb.block g hB]; exact hg, hc⟩
theorem RowF.kept (h : RowF w g n F) (hb : Below w.heap.size w w') : RowF w' g n F := h.below hb h.lt
end
def Mk (v : Value) (w : World) (e : Ending) (w' : World) : Prop := e = .returned v ∧ Below w.heap.size w w'
def MkV (l : List Bool) (w : World) (e : Ending) (w' : World) : Prop :=
  ∃ A c, e = .returned (.slice A l.length c) ∧ l.length ≤ c ∧ c ≤ maxLen ∧ Own w.heap.size w' A l ∧ Below w.heap.size w w'
theorem below_drewN {B : Nat} {a w : World} (h : Below B a w) (n : Nat) : Below B a (w.drewN n) := ⟨h.os, h.tape, h.output, h.size, h.block⟩
theorem bcell {W w1 : World} (hb : Below W.heap.size W w1) : (∀ b o, b < W.heap.size → w1.cell? ⟨b, o, none⟩ = W.cell? ⟨b, o, none⟩) ∧ (∀ b o, b < W.heap.size → w1.frozen? ⟨b, o, none⟩ = W.frozen? ⟨b, o, none⟩) :=
  ⟨fun b o h => hb.cell (p := ⟨b, o, none⟩) h, fun b o h => hb.frozen (p := ⟨b, o, none⟩) h⟩
theorem ret_int {k : IntKind} {a b : Int} (h : a = b) : Ending.returned (.int k a) = .returned (.int k b) := by rw [h]
theorem ret_bool {a b : Bool} (h : a = b) : Ending.returned (.bool a) = .returned (.bool b) := by rw [h]
theorem block_of_add (a : Addr) (n : Nat) : (a.add n).block = a.block := by unfold Addr.add; split <;> rfl
theorem Rd.below {w w' : World} {A : Option Addr} {l : List Bool} (h : Rd w A l) (hb : Below w.heap.size w w') : Rd w' A l := fun hn => by
  obtain ⟨ad, e, hlt, hc⟩ := h hn
  exact ⟨ad, e, Nat.lt_of_lt_of_le hlt hb.size, fun i hi => (hb.cell (p := ad.add i) (by rw [block_of_add]; exact hlt)).trans (hc i hi)⟩
section
variable {B B' : Nat} {w w' : World} {A : Option Addr} {l : List Bool}
theorem Own.lt (h : Own B w A l) (hn : 0 < l.length) : ∃ g, A = some ⟨g, 0, none⟩ ∧ B ≤ g ∧ g < w.heap.size := by
  obtain ⟨g, e, hB, hr⟩ := h hn
  exact ⟨g, e, hB, hr.lt⟩
theorem addr_add (g i : Nat) : ((⟨g, 0, none⟩ : Addr).add i) = ⟨g, i, none⟩ := by unfold Addr.add; split <;> simp_all
theorem Own.rd (h : Own B w A l) : Rd w A l := fun hn => by
  obtain ⟨g, e, hB, hr⟩ := h hn
  exact ⟨_, e, hr.lt, fun i hi => by rw [addr_add]; exact hr.cell hi⟩
theorem Own.kept (h : Own B w A l) (hb : Below w.heap.size w w') : Own B w' A l := fun hn => by
  obtain ⟨g, e, hB, hr⟩ := h hn
  exact ⟨g, e, hB, hr.kept hb⟩
theorem Own.base (h : Own B w A l) (hB : B' ≤ B) : Own B' w A l := fun hn => by
  obtain ⟨g, e, hB2, hr⟩ := h hn
  exact ⟨g, e, by omega, hr⟩
theorem Own.of_row {g : Nat} (h : RowF w g l.length (bt l)) (hB : B ≤ g) : Own B w (some ⟨g, 0, none⟩) l := fun _ => ⟨g, rfl, hB, h⟩
theorem Rd.lt (h : Rd w A l) (hn : 0 < l.length) : ∃ ad, A = some ad ∧ ad.block < w.heap.size := by
  obtain ⟨ad, e, hlt, _⟩ := h hn
  exact ⟨ad, e, hlt⟩
end
theorem Rd.at_ {w : World} {A : Option Addr} {l : List Bool} (h : Rd w A l) {i : Nat} (hi : i < l.length) : ∃ ad, A = some ad ∧ ad.block < w.heap.size ∧ w.cell? (ad.add i) = some (.bool (bt l i)) := by
  obtain ⟨ad, e, hlt, hc⟩ := h (by omega)
  exact ⟨ad, e, hlt, hc i hi⟩
set_option maxHeartbeats 400000 in
theorem ext_any (A : Option Addr) (l : List Bool) (c : Nat) (i : Nat) (b : Bool) (w : World) (hl : l.length ≤ 4096) (hi : i ≤ 10000) (h : Rd w A l) :
    Calls Tryz.prog 172 #[.slice A l.length c, .int .i64 i, .bool b] w fun e w' => e = .returned (.bool (ex l b i)) ∧ w = w' := by
  by_cases hlt : i < l.length
  · obtain ⟨ad, rfl, hb, hc⟩ := h.at_ hlt
    clear h
    have e : ex l b i = bt l i := by unfold ex; rw [if_pos hlt]
    rw [e]
    clear e
    go_enter Tryz.func172, Tryz.ntmps172
    go_wp2
    go_ret
    exact ⟨rfl, rfl⟩
  · have e : ex l b i = b := by unfold ex; rw [if_neg hlt]
    rw [e]
    clear e h
    go_enter Tryz.func172, Tryz.ntmps172
    go_wp2
    go_ret
    exact ⟨rfl, rfl⟩
set_option maxHeartbeats 400000 in
theorem neg_any (A : Option Addr) (l : List Bool) (c : Nat) (w : World) (hl : l.length ≤ 4096) (h : Rd w A l) :
    Calls Tryz.prog 171 #[.slice A l.length c] w fun e w' => e = .returned (.bool (ng l)) ∧ w = w' := by
  by_cases hlt : 0 < l.length
  · obtain ⟨ad, rfl, hb, hc⟩ := h.at_ (i := l.length - 1) (by omega)
    clear h
    have e : ng l = bt l (l.length - 1) := by unfold ng; simp [hlt]
    rw [e]
    clear e
    obtain ⟨n, hn⟩ : ∃ n, l.length = n + 1 := ⟨l.length - 1, by omega⟩
    have hm : n ≤ 4096 := by omega
    rw [hn] at hc ⊢
    simp only [Nat.add_sub_cancel] at hc ⊢
    generalize bt l n = v at *
    clear hn hl hlt
    go_enter Tryz.func171, Tryz.ntmps171
    go_wp2
    go_ret
    exact ⟨rfl, rfl⟩
  · have e : ng l = false := by unfold ng; simp [hlt]
    have hz : l.length = 0 := by omega
    rw [e, hz]
    clear e h hl hlt hz
    go_enter Tryz.func171, Tryz.ntmps171
    go_wp2
    go_ret
    exact ⟨rfl, rfl⟩
set_option maxHeartbeats 400000 in
theorem dist_any (A : Option Addr) (n : Nat) (c : Nat) (k : Int) (w : World) (hl : n ≤ 4096) :
    Calls Tryz.prog 204 #[.slice A n c, .int .i64 k] w fun e w' => e = .returned (.int .i64 ((min k.toNat n : Nat) : Int)) ∧ w = w' := by
  go_enter Tryz.func204, Tryz.ntmps204
  go_wp2
  all_goals
    go_ret
    exact ⟨ret_int (by omega), rfl⟩
end
section
open Go Go.RowKit
set_option maxRecDepth 100000
def lsm (N m : Nat) : Array Bool := Array.ofFn fun i : Fin N => m.testBit i.1
theorem lsm_get (N m i : Nat) : (lsm N m)[i]? = if i < N then some (m.testBit i) else none := by
  unfold lsm
  by_cases h : i < N
  · rw [if_pos h, Array.getElem?_eq_getElem (by simpa using h), Array.getElem_ofFn]
  · rw [if_neg h, Array.getElem?_eq_none (by simpa using h)]
theorem lsm_getD (N m i : Nat) (b : Bool) : (lsm N m).getD i b = if i < N then m.testBit i else b := by
  rw [Array.getD_eq_getD_getElem?, lsm_get]
  split <;> rfl
theorem lsm_set (N m i : Nat) : (lsm N m).setIfInBounds i true = lsm N (m ||| (1 <<< i)) := by
  apply Array.ext_getElem?
  intro j
  rw [Array.getElem?_setIfInBounds, lsm_get, lsm_get, Nat.testBit_or]
  have hs : (lsm N m).size = N := by unfold lsm; simp
  have ht : (1 <<< i).testBit j = decide (i = j) := by rw [Nat.one_shiftLeft, Nat.testBit_two_pow]
  rw [hs, ht]
  by_cases e : i = j
  · subst e; simp
  · simp [e]
theorem lsm_zero (N : Nat) : Array.replicate N false = lsm N 0 := by
  apply Array.ext_getElem?
  intro j
  rw [Array.getElem?_replicate, lsm_get]
  simp
section
variable {P : Program} {Q : Exit → Act → World → Prop} {ops : Array Oper}
def rdyB (ops : Array Oper) (N m i : Nat) : Bool :=
  Nat.blt i N && (!m.testBit i && (match ops[i]? with | none => false | some o => o.after.all fun e => !Region.binds .any e || (Nat.blt e.on N && m.testBit e.on)))
theorem rdyB_iff {N m i : Nat} : rdyB ops N m i = true ↔ i ∈ Region.ready .any ops (lsm N m) := by
  rw [mem_ready, lsm_getD]
  unfold rdyB
  rw [Bool.and_eq_true, Bool.and_eq_true]
  by_cases h : i < N
  · rw [if_pos h, blt_t h]
    simp only [true_and, Bool.not_eq_true']
    refine and_congr Iff.rfl ?_
    cases ho : ops[i]? with
    | none => simp
    | some o =>
      simp only [Option.some.injEq, exists_eq_left']
      rw [Array.all_eq_true_iff_forall_mem]
      refine forall_congr' fun e => forall_congr' fun _ => ?_
      rw [lsm_getD]
      by_cases h2 : e.on < N
      · rw [if_pos h2, blt_t h2]; cases Region.binds .any e <;> simp
      · rw [if_neg h2, blt_f h2]; cases Region.binds .any e <;> simp
  · rw [if_neg h, blt_f h]; simp
def onlyB (ops : Array Oper) (N m i : Nat) : Bool := rdyB ops N m i && (List.range N).all fun j => Nat.beq j i || !rdyB ops N m j
theorem ready_lt {N m i : Nat} (h : i ∈ Region.ready .any ops (lsm N m)) : i < N := by
  have := rdyB_iff.2 h
  unfold rdyB at this
  rw [Bool.and_eq_true] at this
  exact Nat.le_of_ble_eq_true this.1
theorem onlyB_spec {N m i : Nat} (h : onlyB ops N m i = true) : i ∈ Region.ready .any ops (lsm N m) ∧ ∀ j ∈ Region.ready .any ops (lsm N m), j = i := by
  unfold onlyB at h
  rw [Bool.and_eq_true, List.all_eq_true] at h
  refine ⟨rdyB_iff.1 h.1, fun j hj => ?_⟩
  have := h.2 j (List.mem_range.2 (ready_lt hj))
  rw [Bool.or_eq_true] at this
  rcases this with h1 | h1
  · exact Nat.eq_of_beq_eq_true h1
  · rw [rdyB_iff.2 hj] at h1; cases h1
def noneB (ops : Array Oper) (N m : Nat) : Bool := (List.range N).all fun j => !rdyB ops N m j
theorem noneB_spec {N m : Nat} (h : noneB ops N m = true) : Region.ready .any ops (lsm N m) = [] := by
  cases hr : Region.ready .any ops (lsm N m) with
  | nil => rfl
  | cons j l =>
    exfalso
    have hj : j ∈ Region.ready .any ops (lsm N m) := by rw [hr]; simp
    unfold noneB at h
    rw [List.all_eq_true] at h
    have := h j (List.mem_range.2 (ready_lt hj))
    rw [rdyB_iff.2 hj] at this
    cases this
def freeB (ops : Array Oper) (N m i : Nat) (o : Oper) : Bool :=
  (List.range N).all fun j => Nat.beq j i || (m.testBit j || match ops[j]? with
    | some oj => oj.after.any (fun e => Region.binds .any e && e.on == i) || o.apart ops oj
    | none => true)
theorem freeB_spec {m i : Nat} {o : Oper} (hi : ops[i]? = some o) (h : freeB ops ops.size m i o = true) : Region.free .any ops (lsm ops.size m) i = true := by
  unfold Region.free
  rw [hi]
  simp only
  unfold freeB at h
  rw [List.all_eq_true] at h ⊢
  intro j hj
  have := h j hj
  rw [lsm_getD, if_pos (List.mem_range.1 hj)]
  rw [Bool.or_eq_true, Bool.or_eq_true] at this
  rw [Bool.or_eq_true, Bool.or_eq_true]
  rcases this with h1 | h1 | h1
  · exact Or.inl (Or.inl (by rw [beq_iff_eq]; exact Nat.eq_of_beq_eq_true h1))
  · exact Or.inl (Or.inr h1)
  · exact Or.inr h1
structure Rg (ops : Array Oper) (n : Nat) : Prop where
  ns : Region.noSelect ops = true
  hd : ∀ {listed : Array Bool} {i j : Nat}, HeadInv .any ops n listed → i < n → listed.getD i true = false → j ∈ Region.ready .any ops listed → j < n
theorem Rg.of {ops : Array Oper} {n : Nat} (ns : Region.noSelect ops = true) (sk : Region.sinkB .any ops n = true) (ch : Region.chainB .any ops n = true) (lt : n < ops.size) : Rg ops n :=
  ⟨ns, fun {listed i j} inv hin hun hj => by
    rcases Nat.lt_or_ge j n with h | h
    · exact h
    · exact absurd hj (tail_waits sk ch lt inv _ i rfl hin hun j h)⟩
theorem Rg.all {ops : Array Oper} {n : Nat} (ns : Region.noSelect ops = true) (hn : ops.size = n) : Rg ops n :=
  ⟨ns, fun {listed i j} inv hin hun hj => by
    obtain ⟨_, oj, hoj, _⟩ := mem_ready.1 hj
    rw [← hn]
    exact (Array.getElem?_eq_some_iff.1 hoj).1⟩
theorem anyT_firstR {ops : Array Oper} {Q : Exit → Act → World → Prop} {S : World → Prop} {n i : Nat} {oi : Oper} {v : Value} (F : Rg ops n) (hi : ops[i]? = some oi) (hin : i < n)
    (hQ : ∀ c a w, Q (.panic c) (a.put oi.dst v) w → Q (.panic c) a w) :
    ∀ (fuel : Nat) (listed : Array Bool) (a : Act) (w : World), HeadInv .any ops n listed →
      (∀ j oj, ops[j]? = some oj → j ≠ i → listed.getD j true = false → (∀ e ∈ oj.after, Region.binds .any e = true → e.on ≠ i) → oi.apart ops oj = true) →
      i ∈ Region.ready .any ops listed → YieldsIf P ops S oi v a → S w →
      anyT P .any ops Q S n fuel (listed.setIfInBounds i true) (a.put oi.dst v) w → anyT P .any ops Q S n (fuel + 1) listed a w := by
  have hsel := Region.noSelect_spec F.ns
  intro fuel
  induction fuel with
  | zero =>
    intro listed a w inv _ hr hy hS H
    refine ⟨fun h => (by rw [h] at hr; cases hr), fun j hj => ?_⟩
    by_cases hji : j = i
    · subst hji; exact hy.wpOp hi hS ⟨fun _ => hS, H⟩
    · have := ready_mono hj hji
      rw [H.1] at this
      cases this
  | succ fuel ih =>
    intro listed a w inv hfree hr hy hS H
    have hun := (mem_ready.1 hr).1
    refine ⟨fun h => (by rw [h] at hr; cases hr), fun j hj => ?_⟩
    have hjn : j < n := F.hd inv hin hun hj
    by_cases hji : j = i
    · subst hji; exact hy.wpOp hi hS ⟨fun _ => hS, H⟩
    · have h1 := H.2 j (ready_mono hj hji)
      obtain ⟨hjun, oj, hoj, hall⟩ := mem_ready.1 hj
      have hnot : ∀ e ∈ oj.after, Region.binds .any e = true → e.on ≠ i := fun e he hb heq => by
        have h2 := hall e he hb
        rw [heq, getD_both hun] at h2
        cases h2
      have h2 := wpOp_putIf hoj (hfree j oj hoj hji hjun hnot) (fun cs b => hsel i oi cs b hi) (fun cs b => hsel j oj cs b hoj) hQ hy h1
      have hfree' : ∀ k ok, ops[k]? = some ok → k ≠ i → (listed.setIfInBounds j true).getD k true = false →
          (∀ e ∈ ok.after, Region.binds .any e = true → e.on ≠ i) → oi.apart ops ok = true := fun k ok hk hki hkun hno => by
        refine hfree k ok hk hki ?_ hno
        by_cases hjk : j = k
        · subst hjk; exact hjun
        · rw [getD_set_ne true hjk] at hkun; exact hkun
      refine wpOp_mono (fun a' w' h3 => ⟨h3.2.1, ih (listed.setIfInBounds j true) a' w' (inv.set hj hjn) hfree' (ready_mono hr (Ne.symm hji)) h3.1 (h3.2.1 hjn) ?_⟩) h2
      rw [Array.setIfInBounds_comm _ _ hji]
      exact h3.2.2
theorem anyT_takeR {ops : Array Oper} {Q : Exit → Act → World → Prop} {S : World → Prop} {n i : Nat} {oi : Oper} {v : Value} {fuel : Nat} {listed : Array Bool} {a : Act} {w : World} (F : Rg ops n) (hi : ops[i]? = some oi) (hin : i < n)
    (hf : Region.free .any ops listed i = true) (hr : (Region.ready .any ops listed).contains i = true)
    (inv : HeadInv .any ops n listed)
    (hQ : ∀ c a w, Q (.panic c) (a.put oi.dst v) w → Q (.panic c) a w) (hy : YieldsIf P ops S oi v a) (hS : S w)
    (h : HeadInv .any ops n (listed.setIfInBounds i true) → anyT P .any ops Q S n fuel (listed.setIfInBounds i true) (a.put oi.dst v) w) : anyT P .any ops Q S n (fuel + 1) listed a w :=
  have hr' : i ∈ Region.ready .any ops listed := by simpa using hr
  anyT_firstR F hi hin hQ fuel listed a w inv (Region.free_spec hi hf) hr' hy hS (h (inv.set hr' hin))
def anyE (P : Program) (ops : Array Oper) (Q : Exit → Act → World → Prop) (W : World) (n fuel m k : Nat) (E : Env) (w : World) : Prop :=
  anyT P .any ops Q (fun x => Below W.heap.size W x) n fuel (lsm ops.size m) (sl k E) w
def anyR (P : Program) (ops : Array Oper) (Q : Exit → Act → World → Prop) (W : World) (n fuel m k : Nat) (E : Env) (w : World) : Prop :=
  Below W.heap.size W w → HeadInv .any ops n (lsm ops.size m) → anyE P ops Q W n fuel m k E w
theorem region_R {id n N k : Nat} {E : Env} {w : World} (hm : P.follows .mixedOrders = true) (hN : ops.size = N) (ns : Region.noSelect ops = true) (sk : Region.sinkB .any ops n = true) (ch : Region.chainB .any ops n = true) (lt : Nat.blt n N = true)
    (hQ : ∀ c a d v w, Q (.panic c) (Act.put a (some d) v) w → Q (.panic c) a w) (h : Rg ops n → (∀ c a d v w, Q (.panic c) (Act.put a (some d) v) w → Q (.panic c) a w) → anyR P ops Q w n N 0 k E w.drew) : (Code.region id ops true).wp P Q (sl k E) w := by
  refine region_anyT (S := fun x => Below w.heap.size w x) (n := n) hm (Below.refl _ _).drew fun hS inv => ?_
  rw [lsm_zero] at inv ⊢
  subst hN
  exact h (Rg.of ns sk ch (Nat.le_of_ble_eq_true lt)) hQ hS inv
variable {W w : World} {n fuel m k : Nat} {E : Env}
theorem anyR_val {i d m' : Nat} {o : Oper} {v : Value} (F : Rg ops n) (hQ : ∀ c a d v w, Q (.panic c) (Act.put a (some d) v) w → Q (.panic c) a w) (hi : ops[i]? = some o) (hd : o.dst = some d) (hin : Nat.blt i n = true) (hf : freeB ops ops.size m i o = true) (hr : rdyB ops ops.size m i = true)
    (hw : wnt ops k E o = true) (hm : Nat.lor m (Nat.shiftLeft 1 i) = m') (hy : ∀ w', Below W.heap.size W w' → (execOp (evl k E) o).run P w' = .ok (.value v) w') (h : anyR P ops Q W n fuel m' k ((d, v) :: E) w) : anyR P ops Q W n (fuel + 1) m k E w := fun hS inv => by
  unfold anyE
  have hin' : i < n := Nat.le_of_ble_eq_true hin
  refine anyT_takeR F hi hin' (freeB_spec hi hf) (by simpa using rdyB_iff.1 hr) inv (v := v) ?_ (Or.inl ⟨by rw [wanted_sl]; exact hw, fun w' hw' => by rw [eval_sl]; exact hy w' hw'⟩) hS fun inv' => ?_
  · intro c a w hq
    rw [hd] at hq
    exact hQ _ _ _ _ _ hq
  · rw [lsm_set, show m ||| 1 <<< i = m' from hm] at inv' ⊢
    rw [hd, put_sl]
    exact h hS inv'
theorem anyR_off {i d m' : Nat} {o : Oper} (F : Rg ops n) (hQ : ∀ c a d v w, Q (.panic c) (Act.put a (some d) v) w → Q (.panic c) a w) (hi : ops[i]? = some o) (hd : o.dst = some d) (hin : Nat.blt i n = true) (hf : freeB ops ops.size m i o = true) (hr : rdyB ops ops.size m i = true)
    (hw : wnt ops k E o = false) (hm : Nat.lor m (Nat.shiftLeft 1 i) = m') (h : anyR P ops Q W n fuel m' k ((d, undef) :: E) w) : anyR P ops Q W n (fuel + 1) m k E w := fun hS inv => by
  unfold anyE
  have hin' : i < n := Nat.le_of_ble_eq_true hin
  refine anyT_takeR F hi hin' (freeB_spec hi hf) (by simpa using rdyB_iff.1 hr) inv (v := undef) ?_ (Or.inr ⟨by rw [wanted_sl]; exact hw, rfl⟩) hS fun inv' => ?_
  · intro c a w hq
    rw [hd] at hq
    exact hQ _ _ _ _ _ hq
  · rw [lsm_set, show m ||| 1 <<< i = m' from hm] at inv' ⊢
    rw [hd, put_sl]
    exact h hS inv'
theorem anyR_call {i d m' : Nat} {o : Oper} {f : FuncId} {args : Array Value} (hi : ops[i]? = some o) (hd : o.dst = some d) (hin : Nat.blt i n = true) (ho : onlyB ops ops.size m i = true) (hw : wnt ops k E o = true) (hm : Nat.lor m (Nat.shiftLeft 1 i) = m')
    (hr : (execOp (evl k E) o).run P w = .ok (.enter f args) w) (hc : Calls P f args w fun e w' => ∃ v, e = .returned v ∧ Below w.heap.size w w' ∧ anyR P ops Q W n fuel m' k ((d, v) :: E) w') : anyR P ops Q W n (fuel + 1) m k E w := fun hS inv => by
  unfold anyE
  have hin' : i < n := Nat.le_of_ble_eq_true hin
  obtain ⟨h1, h2⟩ := onlyB_spec ho
  refine ⟨fun h0 => (by rw [h0] at h1; cases h1), fun j hj => ?_⟩
  obtain rfl := h2 j hj
  refine wpOp_step hi fun K hK => ?_
  rw [wanted_sl, hw, if_pos rfl]
  unfold Oper.wp
  rw [eval_sl, hr, Oper.upon_enter]
  refine hc.mono ?_
  rintro e w' ⟨v, rfl, hb, h⟩
  show K ((sl k E).put o.dst v) w'
  have hS' : Below W.heap.size W w' := hS.trans (hb.mono hS.size)
  refine hK _ _ ⟨fun _ => hS', ?_⟩
  have inv' := inv.set hj hin'
  rw [lsm_set, show m ||| 1 <<< j = m' from hm] at inv' ⊢
  rw [hd, put_sl]
  exact h hS' inv'
theorem anyR_last {i d m' : Nat} {o : Oper} {v : Value} (hi : ops[i]? = some o) (hd : o.dst = some d) (ho : onlyB ops ops.size m i = true) (hw : wnt ops k E o = true) (hm : Nat.lor m (Nat.shiftLeft 1 i) = m')
    (hin : Nat.ble n i = true) (hr : (execOp (evl k E) o).run P w = .ok (.value v) w) (h : anyE P ops Q W n fuel m' k ((d, v) :: E) w) : anyE P ops Q W n (fuel + 1) m k E w := by
  unfold anyE
  obtain ⟨h1, h2⟩ := onlyB_spec ho
  refine ⟨fun h0 => (by rw [h0] at h1; cases h1), fun j hj => ?_⟩
  obtain rfl := h2 j hj
  refine wpOp_step hi fun K hK => ?_
  rw [wanted_sl, hw, if_pos rfl]
  unfold Oper.wp
  rw [eval_sl, hr, Oper.upon_value]
  have hge : n ≤ j := Nat.le_of_ble_eq_true hin
  refine hK _ _ ⟨fun h0 => absurd h0 (by omega), ?_⟩
  rw [lsm_set, show m ||| 1 <<< j = m' from hm, hd, put_sl]
  exact h
theorem anyR_e (h : anyE P ops Q W n fuel m k E w) : anyR P ops Q W n fuel m k E w := fun _ _ => h
theorem anyE_done (hr : noneB ops ops.size m = true) (h : Q .normal (sl k E) w) : anyE P ops Q W n fuel m k E w := anyT_done (noneB_spec hr) h _
def StepR (P : Program) (ops : Array Oper) (Q : Exit → Act → World → Prop) (W : World) (n fuel m k : Nat) (E : Env) (w : World) (i : Nat) : Prop :=
  Below W.heap.size W w → HeadInv .any ops n (lsm ops.size m) → i ∈ Region.ready .any ops (lsm ops.size m) → wpOp P ops Q i (fun a' w' => (i < n → Below W.heap.size W w') ∧ anyT P .any ops Q (fun x => Below W.heap.size W x) n fuel ((lsm ops.size m).setIfInBounds i true) a' w') (sl k E) w
def AllR (P : Program) (ops : Array Oper) (Q : Exit → Act → World → Prop) (W : World) (n fuel m k : Nat) (E : Env) (w : World) : List Nat → Prop
  | [] => True
  | i :: l => StepR P ops Q W n fuel m k E w i ∧ AllR P ops Q W n fuel m k E w l
def rdyL (ops : Array Oper) (N m : Nat) : List Nat := (List.range N).filter fun i => rdyB ops N m i
theorem rdyL_spec {N m i : Nat} : i ∈ Region.ready .any ops (lsm N m) ↔ i ∈ rdyL ops N m := by
  unfold rdyL
  rw [List.mem_filter, List.mem_range, ← rdyB_iff]
  exact ⟨fun h => ⟨ready_lt (rdyB_iff.1 h), h⟩, fun h => h.2⟩
theorem AllR.get {l : List Nat} (h : AllR P ops Q W n fuel m k E w l) : ∀ i ∈ l, StepR P ops Q W n fuel m k E w i := by
  induction l with
  | nil => intro i hi; cases hi
  | cons j l ih =>
    intro i hi
    rcases List.mem_cons.1 hi with rfl | hi
    · exact h.1
    · exact ih h.2 i hi
theorem anyR_split (rs : List Nat) (hr : rdyL ops ops.size m = rs) (hne : rs.isEmpty = false) (h : AllR P ops Q W n fuel m k E w rs) : anyR P ops Q W n (fuel + 1) m k E w := fun hS inv => by
  unfold anyE
  refine ⟨fun h0 => ?_, fun i hi => ?_⟩
  · exfalso
    cases rs with
    | nil => cases hne
    | cons i l =>
      have : i ∈ Region.ready .any ops (lsm ops.size m) := rdyL_spec.2 (by rw [hr]; simp)
      rw [h0] at this; cases this
  · have h1 := rdyL_spec.1 hi
    rw [hr] at h1
    exact h.get i h1 hS inv hi
theorem stepR_call {i d m' : Nat} {o : Oper} {f : FuncId} {args : Array Value} (hi : ops[i]? = some o) (hd : o.dst = some d) (hin : Nat.blt i n = true) (hw : wnt ops k E o = true) (hm : Nat.lor m (Nat.shiftLeft 1 i) = m')
    (hr : (execOp (evl k E) o).run P w = .ok (.enter f args) w) (hc : Calls P f args w fun e w' => ∃ v, e = .returned v ∧ Below w.heap.size w w' ∧ anyR P ops Q W n fuel m' k ((d, v) :: E) w') : StepR P ops Q W n fuel m k E w i := fun hS inv hj => by
  have hin' : i < n := Nat.le_of_ble_eq_true hin
  refine wpOp_step hi fun K hK => ?_
  rw [wanted_sl, hw, if_pos rfl]
  unfold Oper.wp
  rw [eval_sl, hr, Oper.upon_enter]
  refine hc.mono ?_
  rintro e w' ⟨v, rfl, hb, h⟩
  show K ((sl k E).put o.dst v) w'
  have hS' : Below W.heap.size W w' := hS.trans (hb.mono hS.size)
  refine hK _ _ ⟨fun _ => hS', ?_⟩
  have inv' := inv.set hj hin'
  rw [lsm_set, show m ||| 1 <<< i = m' from hm] at inv' ⊢
  rw [hd, put_sl]
  exact h hS' inv'
theorem stepR_val {i d m' : Nat} {o : Oper} {v : Value} {w' : World} (hi : ops[i]? = some o) (hd : o.dst = some d) (hin : Nat.blt i n = true) (hw : wnt ops k E o = true) (hm : Nat.lor m (Nat.shiftLeft 1 i) = m')
    (hr : (execOp (evl k E) o).run P w = .ok (.value v) w') (hb : Below w.heap.size w w') (h : anyR P ops Q W n fuel m' k ((d, v) :: E) w') : StepR P ops Q W n fuel m k E w i := fun hS inv hj => by
  have hin' : i < n := Nat.le_of_ble_eq_true hin
  refine wpOp_step hi fun K hK => ?_
  rw [wanted_sl, hw, if_pos rfl]
  unfold Oper.wp
  rw [eval_sl, hr, Oper.upon_value]
  have hS' : Below W.heap.size W w' := hS.trans (hb.mono hS.size)
  refine hK _ _ ⟨fun _ => hS', ?_⟩
  have inv' := inv.set hj hin'
  rw [lsm_set, show m ||| 1 <<< i = m' from hm] at inv' ⊢
  rw [hd, put_sl]
  exact h hS' inv'
theorem anyE_none {i m' : Nat} {o : Oper} {w' : World} (hi : ops[i]? = some o) (hd : o.dst = none) (ho : onlyB ops ops.size m i = true) (hw : wnt ops k E o = true) (hm : Nat.lor m (Nat.shiftLeft 1 i) = m')
    (hin : Nat.ble n i = true) (hr : (execOp (evl k E) o).run P w = .ok .skip w') (h : anyE P ops Q W n fuel m' k E w') : anyE P ops Q W n (fuel + 1) m k E w := by
  unfold anyE
  obtain ⟨h1, h2⟩ := onlyB_spec ho
  refine ⟨fun h0 => (by rw [h0] at h1; cases h1), fun j hj => ?_⟩
  obtain rfl := h2 j hj
  refine wpOp_step hi fun K hK => ?_
  rw [wanted_sl, hw, if_pos rfl]
  unfold Oper.wp
  rw [eval_sl, hr, Oper.upon_skip]
  have hge : n ≤ j := Nat.le_of_ble_eq_true hin
  refine hK _ _ ⟨fun h0 => absurd h0 (by omega), ?_⟩
  rw [lsm_set, show m ||| 1 <<< j = m' from hm, hd]
  exact h
theorem wp_cut {c : Code} {E0 : Env} (Post : Env → World → Prop) (h : c.wp P (Exit.then (fun a w' => ∃ E, a = sl k E ∧ Post E w') Q) (sl k E0) w) (h2 : ∀ E w', Post E w' → Q .normal (sl k E) w') : c.wp P Q (sl k E0) w :=
  Go.wp_mono h fun e a w' hq => by
    cases e with
    | normal => obtain ⟨E, rfl, hp⟩ := hq; exact h2 E w' hp
    | _ => exact hq
theorem Kp_n {E : Env} : Kp [] E := trivial
theorem Kp_c {E K : Env} {d : Nat} {v : Value} (h : lk E d = v) (hk : Kp K E) : Kp ((d, v) :: K) E := ⟨h, hk⟩
theorem wp_cutK {c : Code} {E0 : Env} {α : Type} (K : α → Env) (Post : α → World → Prop) (h : c.wp P (Exit.then (fun a w' => ∃ p E, a = sl k E ∧ Kp (K p) E ∧ Post p w') Q) (sl k E0) w) (h2 : ∀ p X w', Post p w' → Q .normal (sl k (K p ++ X)) w') : c.wp P Q (sl k E0) w :=
  Go.wp_mono h fun e a w' hq => by
    cases e with
    | normal => obtain ⟨p, E, rfl, hk, hp⟩ := hq; rw [sl_keep hk]; exact h2 p E w' hp
    | _ => exact hq
end
end
section
open Go Go.RowKit
set_option maxRecDepth 100000
set_option linter.unusedSimpArgs false
set_option linter.unusedVariables false
section
variable {P : Program} {ρ : Operand → Value} {o : Oper} {x y : Operand} {w : World} {t p : TypeId} {a b c : Int}
theorem wrap_id {c : Int} (h1 : -9223372036854775808 ≤ c) (h2 : c ≤ 9223372036854775807) : IntKind.wrap .i64 c = c := by
  simp only [IntKind.wrap, IntKind.bits, IntKind.signed]
  simp
  omega
theorem run_add (ho : o.op = .binOp .add t x y p) (hx : ρ x = .int .i64 a) (hy : ρ y = .int .i64 b) (hc : a + b = c) (h1 : -9223372036854775808 ≤ c) (h2 : c ≤ 9223372036854775807) : (execOp ρ o).run P w = .ok (.value (.int .i64 c)) w := by
  unfold execOp
  rw [ho]
  simp only [hx, hy]
  have e : (Value.int .i64 (IntKind.wrap .i64 (a + b))) = .int .i64 c := by rw [hc, wrap_id h1 h2]
  rw [← e]
  rfl
theorem run_sub (ho : o.op = .binOp .sub t x y p) (hx : ρ x = .int .i64 a) (hy : ρ y = .int .i64 b) (hc : a - b = c) (h1 : -9223372036854775808 ≤ c) (h2 : c ≤ 9223372036854775807) : (execOp ρ o).run P w = .ok (.value (.int .i64 c)) w := by
  unfold execOp
  rw [ho]
  simp only [hx, hy]
  have e : (Value.int .i64 (IntKind.wrap .i64 (a - b))) = .int .i64 c := by rw [hc, wrap_id h1 h2]
  rw [← e]
  rfl
theorem run_leq (ho : o.op = .binOp .leq t x y p) (hx : ρ x = .int .i64 a) (hy : ρ y = .int .i64 b) {q : Bool} (hc : decide (a ≤ b) = q) : (execOp ρ o).run P w = .ok (.value (.bool q)) w := by
  subst hc
  unfold execOp
  rw [ho]
  simp only [hx, hy]
  rfl
theorem run_beql (ho : o.op = .binOp .eql 4 x y p) {a b : Bool} (hx : ρ x = .bool a) (hy : ρ y = .bool b) {q : Bool} (hc : (a == b) = q) : (execOp ρ o).run Tryz.prog w = .ok (.value (.bool q)) w := by
  subst hc
  unfold execOp
  rw [ho]
  simp only [hx, hy]
  cases a <;> cases b <;> kernel_rfl
theorem run_max {ts : Array TypeId} (ho : o.op = .call { callee := .builtin .max, args := #[x, y], argTypes := ts }) (hx : ρ x = .int .i64 a) (hy : ρ y = .int .i64 b) (hc : (if b > a then b else a) = c) : (execOp ρ o).run P w = .ok (.value (.int .i64 c)) w := by
  subst hc
  unfold execOp
  rw [ho]
  simp [go_sem, hx, hy]
  try rfl
end
end
section
def bst (a : Int) : Int := if 3 < a then 2 else a
theorem bst_bd (a : Int) (h0 : 0 ≤ a) : 0 ≤ bst a ∧ bst a < 4 := by
  unfold bst; split <;> omega
def mValid (a : Int) : Bool := decide (a ≤ 3)
def mKnown (a : Int) : Bool := decide (a ≤ 1)
def mNot (a : Int) : Int := if a = 0 then 1 else if a = 1 then 0 else 2
def mBuf (a : Int) : Int := if a = 0 then 0 else if a = 1 then 1 else 2
def mAnd (a b : Int) : Int := if a = 0 ∨ b = 0 then 0 else if a = 1 ∧ b = 1 then 1 else 2
def mOr (a b : Int) : Int := if a = 1 ∨ b = 1 then 1 else if a = 0 ∧ b = 0 then 0 else 2
def mXor (a b : Int) : Int := if 1 < a ∨ 1 < b then 2 else if a = b then 0 else 1
def mEq (a b : Int) : Int := mNot (mXor a b)
def mAgree (a b : Int) : Int := if a ≤ 1 ∧ a = b then a else 2
def mMux (s a b : Int) : Int := if s = 1 then mBuf a else if s = 0 then mBuf b else mAgree a b
def mSame (a b : Int) : Bool := decide (bst a = bst b)
def mLeq (a b : Int) : Bool := mSame a b || (!mKnown a && mKnown b)
def mFrom (v : Bool) : Int := if v then 1 else 0
theorem bcases (a : Int) : a = 0 ∨ a = 1 ∨ (a ≠ 0 ∧ a ≠ 1) := by omega
theorem mXor_nn (a b : Int) : 0 ≤ mXor a b := by unfold mXor; split <;> (try split) <;> omega
theorem mAnd_bst (a b : Int) : mAnd (bst a) (bst b) = mAnd a b := by
  unfold mAnd bst; (repeat' split) <;> first | rfl | omega
theorem mOr_bst (a b : Int) : mOr (bst a) (bst b) = mOr a b := by
  unfold mOr bst; (repeat' split) <;> first | rfl | omega
theorem mXor_bst (a b : Int) : mXor (bst a) (bst b) = mXor a b := by
  unfold mXor bst; (repeat' split) <;> first | rfl | omega
theorem mAgree_bst (a b : Int) : mAgree (bst a) (bst b) = mAgree a b := by
  unfold mAgree bst; (repeat' split) <;> first | rfl | omega
theorem mNot_bst (a : Int) : mNot (bst a) = mNot a := by
  unfold mNot bst; (repeat' split) <;> first | rfl | omega
theorem mBuf_bst (a : Int) : mBuf (bst a) = mBuf a := by
  unfold mBuf bst; (repeat' split) <;> first | rfl | omega
theorem mXor_x {a b : Int} (h : 1 < a ∨ 1 < b) : mXor a b = 2 := by unfold mXor; rw [if_pos h]
theorem mNot_3 (a : Int) : mNot a = 0 ∨ mNot a = 1 ∨ mNot a = 2 := by unfold mNot; (repeat' split) <;> omega
theorem mBuf_3 (a : Int) : mBuf a = 0 ∨ mBuf a = 1 ∨ mBuf a = 2 := by unfold mBuf; (repeat' split) <;> omega
theorem mAnd_3 (a b : Int) : mAnd a b = 0 ∨ mAnd a b = 1 ∨ mAnd a b = 2 := by unfold mAnd; (repeat' split) <;> omega
theorem mOr_3 (a b : Int) : mOr a b = 0 ∨ mOr a b = 1 ∨ mOr a b = 2 := by unfold mOr; (repeat' split) <;> omega
theorem mXor_3 (a b : Int) : mXor a b = 0 ∨ mXor a b = 1 ∨ mXor a b = 2 := by unfold mXor; (repeat' split) <;> omega
theorem mEq_3 (a b : Int) : mEq a b = 0 ∨ mEq a b = 1 ∨ mEq a b = 2 := mNot_3 _
theorem mAgree_3 (a b : Int) (h : 0 ≤ a) : mAgree a b = 0 ∨ mAgree a b = 1 ∨ mAgree a b = 2 := by unfold mAgree; (repeat' split) <;> omega
theorem mMux_3 (s a b : Int) (h : 0 ≤ a) : mMux s a b = 0 ∨ mMux s a b = 1 ∨ mMux s a b = 2 := by
  unfold mMux; split
  · exact mBuf_3 _
  · split
    · exact mBuf_3 _
    · exact mAgree_3 _ _ h
section mono
variable {a b s d e t : Int} (ha : 0 ≤ a) (hb : 0 ≤ b) (hd : 0 ≤ d) (he : 0 ≤ e)
include ha
include hb
include hd
end mono
end
section
open Go.RowKit
set_option maxRecDepth 100000
theorem og_tf {f g : Nat → Bool} {i : Nat} (h : f i = true) (k : g i = false) : og f g (i + 1) = 1 := by unfold og; rw [h, k]; rfl
theorem og_ft {f g : Nat → Bool} {i : Nat} (h : f i = false) (k : g i = true) : og f g (i + 1) = -1 := by unfold og; rw [h, k]; rfl
theorem og_eq {f g : Nat → Bool} {i : Nat} {b : Bool} (h : f i = b) (k : g i = b) : og f g (i + 1) = og f g i := by rw [og, h, k]; cases b <;> rfl
set_option maxHeartbeats 1000000 in
theorem order_any (A B : Option Addr) (a b : List Bool) (c d : Nat) (x y : Bool) (w : World) (ha : a.length ≤ 4096) (hb : b.length ≤ 4096) (hA : Rd w A a) (hB : Rd w B b) :
    Calls Tryz.prog 201 #[.slice A a.length c, .slice B b.length d, .bool x, .bool y] w fun e w' => e = .returned (.int .i64 (og (ex a x) (ex b y) (max a.length b.length))) ∧ w = w' := by
  have HA := hide hA
  have HB := hide hB
  clear hA hB
  go_enter Tryz.func201, Tryz.ntmps201
  go_wp2
  all_goals
    go_loop [9, 18] (fun r i => ∃ k : Nat, k ≤ max a.length b.length ∧ i = .int .i64 k ∧ r = .int .i64 (og (ex a x) (ex b y) k)) (fun _ i => max a.length b.length - (intOf i).toNat)
    case atStart => exact ⟨0, Nat.zero_le _, rfl, rfl⟩
    case round =>
      obtain ⟨k, hk, rfl, rfl⟩ := hrel
      by_cases hlt : k < max a.length b.length
      · (try have h1 : k < b.length := by omega)
        (try have h2 : k < a.length := by omega)
        have hk4 : k ≤ 10000 := by omega
        cases hx : ex a x k <;> cases hy : ex b y k
        all_goals
          first
            | (have hs := hide (og_eq hx hy))
            | (have hs := hide (og_tf hx hy))
            | (have hs := hide (og_ft hx hy))
          go_wp2_with (go_at_call 172; (with_reducible refine (ext_any _ _ _ _ _ _ (by assumption) (by assumption) (by first | exact HA.out | exact HB.out)).mono ?_); rintro e w' ⟨rfl, rfl⟩)
          go_round
          case rel => exact ⟨k + 1, by omega, by go_num, by rw [hs.out]⟩
          case measure => simp [intOf]; omega
      · (try have h1 : b.length ≤ k := by omega)
        (try have h2 : a.length ≤ k := by omega)
        go_wp2
        go_ret
        exact ⟨ret_int (by rw [show max a.length b.length = k by omega]), rfl⟩
theorem cmp_any (A B : Option Addr) (a b : List Bool) (c d : Nat) (w : World) (ha : a.length ≤ 4096) (hb : b.length ≤ 4096) (hA : Rd w A a) (hB : Rd w B b) :
    Calls Tryz.prog 179 #[.slice A a.length c, .slice B b.length d] w fun e w' => e = .returned (.int .i64 (cmp (nv a) (nv b))) ∧ w = w' := by
  rw [← ucmp_spec a b (max a.length b.length) (by omega) (by omega)]
  go_enter Tryz.func179, Tryz.ntmps179
  go_wp2_with (go_at_call 201; (with_reducible refine (order_any _ _ _ _ _ _ _ _ _ ha hb hA hB).mono ?_); rintro e w' ⟨rfl, rfl⟩)
  go_ret
  exact ⟨rfl, rfl⟩
theorem scmp_any (A B : Option Addr) (a b : List Bool) (c d : Nat) (w : World) (ha : a.length ≤ 4096) (hb : b.length ≤ 4096) (hA : Rd w A a) (hB : Rd w B b) :
    Calls Tryz.prog 180 #[.slice A a.length c, .slice B b.length d] w fun e w' => e = .returned (.int .i64 (cmp (sv a) (sv b))) ∧ w = w' := by
  have HA := hide hA
  have HB := hide hB
  clear hA hB
  cases hx : ng a <;> cases hy : ng b
  · rw [← scmp_spec a b (max a.length b.length) (by omega) (by omega) (by rw [hx, hy]), hx, hy]
    go_enter Tryz.func180, Tryz.ntmps180
    go_wp2_with (first
      | (go_at_call 171; (with_reducible refine (neg_any _ _ _ _ (by assumption) (by first | exact HA.out | exact HB.out)).mono ?_); rintro e w' ⟨rfl, rfl⟩)
      | (go_at_call 201; (with_reducible refine (order_any _ _ _ _ _ _ _ _ _ ha hb HA.out HB.out).mono ?_); rintro e w' ⟨rfl, rfl⟩))
    go_ret
    exact ⟨rfl, rfl⟩
  · rw [scmp_gt hx hy]
    go_enter Tryz.func180, Tryz.ntmps180
    go_wp2_with (first
      | (go_at_call 171; (with_reducible refine (neg_any _ _ _ _ (by assumption) (by first | exact HA.out | exact HB.out)).mono ?_); rintro e w' ⟨rfl, rfl⟩))
    go_ret
    exact ⟨rfl, rfl⟩
  · rw [scmp_lt hx hy]
    go_enter Tryz.func180, Tryz.ntmps180
    go_wp2_with (first
      | (go_at_call 171; (with_reducible refine (neg_any _ _ _ _ (by assumption) (by first | exact HA.out | exact HB.out)).mono ?_); rintro e w' ⟨rfl, rfl⟩))
    go_ret
    exact ⟨rfl, rfl⟩
  · rw [← scmp_spec a b (max a.length b.length) (by omega) (by omega) (by rw [hx, hy]), hx, hy]
    go_enter Tryz.func180, Tryz.ntmps180
    go_wp2_with (first
      | (go_at_call 171; (with_reducible refine (neg_any _ _ _ _ (by assumption) (by first | exact HA.out | exact HB.out)).mono ?_); rintro e w' ⟨rfl, rfl⟩)
      | (go_at_call 201; (with_reducible refine (order_any _ _ _ _ _ _ _ _ _ ha hb HA.out HB.out).mono ?_); rintro e w' ⟨rfl, rfl⟩))
    go_ret
    exact ⟨rfl, rfl⟩
end
section
open Go.RowKit
set_option maxRecDepth 100000
def Cry (w : World) (g : Nat) (b : Bool) : Prop := w.heap[g]? = some (.cells #[.bool b] 4 (0, 0))
set_option maxHeartbeats 400000 in
theorem full_any (c : Bool) (w : World) :
    Calls Tryz.prog 176 #[.bool c] w fun e w' => e = .returned (.func (.func 196) #[] #[.pointer (some ⟨w.heap.size, 0, none⟩)]) ∧ w' = w.alloc (.cells #[.bool c] 4) := by
  go_enter Tryz.func176, Tryz.ntmps176
  go_wp2
  go_ret
  exact ⟨rfl, rfl⟩
set_option maxHeartbeats 1000000 in
theorem clo_any (x y c : Bool) (g : Nat) (w : World) (h : Cry w g c) :
    Calls Tryz.prog 196 #[.bool x, .bool y, .pointer (some ⟨g, 0, none⟩)] w fun e w' => e = .returned (.bool (x != (y != c))) ∧ w' = w.setCell ⟨g, 0, none⟩ (.bool ((x && y) || ((x != y) && c))) := by
  have hc := cell_of_one h
  have hf := free_of_one h
  clear h
  cases x <;> cases y <;> cases c
  all_goals
    go_enter Tryz.func196, Tryz.ntmps196
    go_wp2
    go_ret
    exact ⟨rfl, rfl⟩
end
section
open Go.RowKit
set_option maxRecDepth 100000
set_option linter.unusedSimpArgs false
set_option linter.unusedVariables false
theorem Cry.far {w : World} {g : Nat} {b : Bool} (h : Cry w g b) {p : Addr} (hp : g ≠ p.block) (u : Value) : Cry (w.setCell p u) g b := by
  unfold Cry at *; rw [heap_setCell_other w p g u hp]; exact h
theorem Cry.set_ {w : World} {g : Nat} {b : Bool} (h : Cry w g b) (c : Bool) : Cry (w.setCell ⟨g, 0, none⟩ (.bool c)) g c := one_setCell h
theorem Cry.new (w : World) (b : Bool) : Cry (w.alloc (.cells #[.bool b] 4)) w.heap.size b := heap_alloc_new w _
theorem Cry.lt {w : World} {g : Nat} {b : Bool} (h : Cry w g b) : g < w.heap.size := lt_of_block h
def Mid (p k : Nat) (F : Nat → Bool) (y : Nat → Bool) (j : Nat) : Bool := if j < p then F j else if j < p + k then sb false (fun i => F (p + i)) y (j - p) else F j
theorem Mid.zero (p : Nat) (F y : Nat → Bool) (j : Nat) : Mid p 0 F y j = F j := by unfold Mid; split <;> (try split) <;> first | rfl | omega
theorem Mid.step (p k : Nat) (F y : Nat → Bool) (j : Nat) : (if j = p + k then F (p + k) != (y k != cy false (fun i => F (p + i)) y k) else Mid p k F y j) = Mid p (k + 1) F y j := by
  unfold Mid
  by_cases h : j = p + k
  · subst h
    rw [if_pos rfl, if_neg (by omega), if_pos (by omega)]
    simp [sb]
  · rw [if_neg h]
    by_cases h1 : j < p
    · simp [h1]
    · by_cases h2 : j < p + k
      · rw [if_neg h1, if_pos h2, if_neg h1, if_pos (by omega)]
      · rw [if_neg h1, if_neg h2, if_neg h1, if_neg (by omega)]
theorem Mid.at_ (p k : Nat) (F y : Nat → Bool) : Mid p k F y (p + k) = F (p + k) := by unfold Mid; rw [if_neg (by omega), if_neg (by omega)]
structure AddR (w : World) (g n p k : Nat) (F y : Nat → Bool) (wr : World) : Prop where
  row : RowF wr g n (Mid p k F y)
  cry : Cry wr w.heap.size (cy false (fun i => F (p + i)) y k)
  bel : Below g w wr
theorem AddR.step {w wr : World} {g n p k : Nat} {F y : Nat → Bool} (h : AddR w g n p k F y wr) (hg : g < w.heap.size) (hk : p + k < n) :
    AddR w g n p (k + 1) F y ((wr.setCell ⟨w.heap.size, 0, none⟩ (.bool ((F (p + k) && y k) || ((F (p + k) != y k) && cy false (fun i => F (p + i)) y k)))).setCell ⟨g, p + k, none⟩ (.bool (F (p + k) != (y k != cy false (fun i => F (p + i)) y k)))) where
  row := ((h.row.far (p := ⟨w.heap.size, 0, none⟩) (by simp; omega) _).set_ (p + k) _).congr fun j _ => Mid.step p k F y j
  cry := (h.cry.set_ _).far (by simp; omega) _
  bel := (h.bel.setCell (by simp; omega) _).setCell (by simp) _
theorem AddR.drew {w wr : World} {g n p k : Nat} {F y : Nat → Bool} (h : AddR w g n p k F y wr) : AddR w g n p k F y wr.drew := ⟨h.row.drew, h.cry, h.bel.drew⟩
set_option maxHeartbeats 2000000 in
theorem addTo_any (g n p m c : Nat) (F : Nat → Bool) (B : Option Addr) (b : List Bool) (d : Nat) (w : World) (hm : m ≤ 4096) (hpm : p + m = n) (hb : b.length ≤ 4096) (hrow : RowF w g n F) (hB : 0 < b.length → ∃ ad, B = some ad ∧ ad.block < g ∧ ∀ i, i < b.length → w.cell? (ad.add i) = some (.bool (bt b i))) :
    Calls Tryz.prog 175 #[.slice (some ⟨g, p, none⟩) m c, .slice B b.length d] w fun e w' => e = .returned (.tuple #[]) ∧ RowF w' g n (Mid p m F (bt b)) ∧ Below g w w' := by
  have HB := hide hB
  have HR := hide hrow
  clear hB hrow
  have hgs : g < w.heap.size := HR.out.lt
  have HP := hide hpm
  clear hpm
  go_enter Tryz.func175, Tryz.ntmps175
  go_wp2_with (go_at_call 176; (with_reducible refine (full_any _ _).mono ?_); rintro e w' ⟨rfl, rfl⟩)
  go_loopw [9] (fun i wr => ∃ k : Nat, k ≤ m ∧ i = .int .i64 k ∧ AddR w g n p k F (bt b) wr) (fun i _ => m - (intOf i).toNat)
  case atStart =>
    exact ⟨0, Nat.zero_le _, rfl, ⟨(HR.out.alloc _).congr fun j _ => (Mid.zero p F (bt b) j).symm, Cry.new _ _, (Below.refl _ _).alloc (by omega) _⟩⟩
  case round =>
    obtain ⟨k, hk, rfl, hR⟩ := hrel
    by_cases hlt : k < m
    · have hpk : p + k < n := by have := HP.out; omega
      have hRH := hide hR
      have hc : wr.cell? ⟨g, p + k, none⟩ = some (.bool (F (p + k))) := by rw [hR.row.cell hpk, Mid.at_]
      have hf : wr.frozen? ⟨g, p + k, none⟩ = false := hR.row.free _
      have hRd : Hid (Rd wr B b) := hide fun h0 => by
        obtain ⟨ad, e, h1, h2⟩ := HB.out h0
        exact ⟨ad, e, Nat.lt_of_lt_of_le (by omega) hR.bel.size, fun i hi => (hR.bel.cell (p := ad.add i) (by rw [block_of_add]; exact h1)).trans (h2 i hi)⟩
      have hcl : Hid (Cry wr w.heap.size _) := hide hR.cry
      clear hR
      go_wp2
      refine region_anyT (S := fun w1 => w1.cell? ⟨g, p + k, none⟩ = some (.bool (F (p + k)))) (n := 12) kr hc (fun hS inv => ?_)
      refine anyT_take (i := 0) (oi := _) (v := .slice (some ⟨g, p, none⟩) m c) rfl kr kr kr (by decide) (by decide) kr kr inv (fun _ _ _ h => h) (Or.inl ⟨kr, ?_⟩) hS (fun inv => ?_)
      · intro wz hSw
        go_simp
      (try simp only [Act.put, q5, q6, q7])
      refine anyT_take (i := 1) (oi := _) (v := .int .i64 k) rfl kr kr kr (by decide) (by decide) kr kr inv (fun _ _ _ h => h) (Or.inl ⟨kr, ?_⟩) hS (fun inv => ?_)
      · intro wz hSw
        go_simp
      (try simp only [Act.put, q5, q6, q7])
      refine anyT_take (i := 2) (oi := _) (v := .func (.func 196) #[] #[.pointer (some ⟨w.heap.size, 0, none⟩)]) rfl kr kr kr (by decide) (by decide) kr kr inv (fun _ _ _ h => h) (Or.inl ⟨kr, ?_⟩) hS (fun inv => ?_)
      · intro wz hSw
        go_simp
      (try simp only [Act.put, q5, q6, q7])
      refine anyT_take (i := 3) (oi := _) (v := .slice (some ⟨g, p, none⟩) m c) rfl kr kr kr (by decide) (by decide) kr kr inv (fun _ _ _ h => h) (Or.inl ⟨kr, ?_⟩) hS (fun inv => ?_)
      · intro wz hSw
        go_simp
      (try simp only [Act.put, q5, q6, q7])
      refine anyT_take (i := 4) (oi := _) (v := .int .i64 k) rfl kr kr kr (by decide) (by decide) kr kr inv (fun _ _ _ h => h) (Or.inl ⟨kr, ?_⟩) hS (fun inv => ?_)
      · intro wz hSw
        go_simp
      (try simp only [Act.put, q5, q6, q7])
      refine anyT_take (i := 5) (oi := _) (v := .pointer (some ⟨g, p + k, none⟩)) rfl kr kr kr (by decide) (by decide) kr kr inv (fun _ _ _ h => h) (Or.inl ⟨kr, ?_⟩) hS (fun inv => ?_)
      · intro wz hSw
        go_simp
      (try simp only [Act.put, q5, q6, q7])
      refine anyT_take (i := 6) (oi := _) (v := .bool (F (p + k))) rfl kr kr kr (by decide) (by decide) kr kr inv (fun _ _ _ h => h) (Or.inl ⟨kr, ?_⟩) hS (fun inv => ?_)
      · intro wz hSw
        have hSw : wz.cell? ⟨g, p + k, none⟩ = some (.bool (F (p + k))) := hSw; go_simp
      (try simp only [Act.put, q5, q6, q7])
      refine anyT_take (i := 7) (oi := _) (v := .slice B b.length d) rfl kr kr kr (by decide) (by decide) kr kr inv (fun _ _ _ h => h) (Or.inl ⟨kr, ?_⟩) hS (fun inv => ?_)
      · intro wz hSw
        go_simp
      (try simp only [Act.put, q5, q6, q7])
      refine anyT_take (i := 8) (oi := _) (v := .int .i64 k) rfl kr kr kr (by decide) (by decide) kr kr inv (fun _ _ _ h => h) (Or.inl ⟨kr, ?_⟩) hS (fun inv => ?_)
      · intro wz hSw
        go_simp
      (try simp only [Act.put, q5, q6, q7])
      refine anyT_ready (rs := [9]) kr (by simp) ?_
      refine ReadyT.head (o := _) rfl (by decide) kr inv (fun K hK => ?_) ReadyT.nil
      go_simp
      refine (ext_any B b d k false wr.drew hb (by omega) hRd.out).mono ?_
      rintro e wz ⟨rfl, rfl⟩
      rw [ex_false]
      go_wp2_with fail
      refine hK.out _ _ ?_ (fun hS inv => ?_)
      · exact hc
      clear hK K
      (try simp only [Act.put, q5, q6, q7])
      refine anyT_ready (rs := [10]) kr (by simp) ?_
      refine ReadyT.head (o := _) rfl (by decide) kr inv (fun K hK => ?_) ReadyT.nil
      go_simp
      refine (clo_any (F (p + k)) (bt b k) (cy false (fun i => F (p + i)) (bt b) k) w.heap.size wr.drew hcl.out).mono ?_
      rintro e wz ⟨rfl, rfl⟩
      go_wp2_with fail
      refine hK.out _ _ ?_ (fun hS inv => ?_)
      · show (wr.setCell _ _).cell? _ = _; rw [World.cell?_setCell_other _ _ _ _ (by intro h; injection h; omega)]; exact hc
      clear hK K
      (try simp only [Act.put, q5, q6, q7])
      refine anyT_take (i := 11) (oi := _) (v := .pointer (some ⟨g, p + k, none⟩)) rfl kr kr kr (by decide) (by decide) kr kr inv (fun _ _ _ h => h) (Or.inl ⟨kr, ?_⟩) hS (fun inv => ?_)
      · intro wz hSw
        go_simp
      (try simp only [Act.put, q5, q6, q7])
      have hf2 : (wr.drew.setCell ⟨w.heap.size, 0, none⟩ (.bool ((F (p + k) && bt b k) || ((F (p + k) != bt b k) && cy false (fun i => F (p + i)) (bt b) k)))).frozen? ⟨g, p + k, none⟩ = false := (hRH.out.row.far (p := ⟨w.heap.size, 0, none⟩) (by simp; omega) _).free _
      refine anyT_ready (rs := [12]) kr (by simp) ?_
      refine ReadyT.tail (o := _) rfl (by decide) (fun K hK => ?_)
      go_simp
      refine hK.out _ _ ?_
      clear hK K
      (try simp only [Act.put, q5, q6, q7])
      refine anyT_done kr ?_ _
      go_wp2
      go_roundw
      case rel => exact ⟨k + 1, by omega, by go_num, (hRH.out.step hgs hpk).drew⟩
      case measure => simp [intOf]; omega
    · have hR' := hide hR
      clear hR
      go_wp2
      go_end0
      have e : k = m := by omega
      subst e
      exact ⟨rfl, hR'.out.row, hR'.out.bel⟩
end
section
open Go.RowKit
set_option maxRecDepth 100000
set_option linter.unusedSimpArgs false
set_option linter.unusedVariables false
theorem bool_info : (Tryz.prog.info? 4).map (fun i => (i.zero, i.size, i.bytes)) = some (some (.bool false), 1, 1) := by kernel_rfl
theorem row_of_own {w : World} {B g cap : Nat} {l : List Bool} (h : w.ownsRow B 4 1 (.slice (some ⟨g, 0, none⟩) l.length cap) l.length (l.map Value.bool)) : RowF w g l.length (bt l) := by
  rcases h.2 with ⟨h0, _⟩ | ⟨g', cap', cur, hv, hB, hg, hn, hc, hs, hx⟩
  · cases h0
  · injection hv with e1 e2 e3
    injection e1 with e1
    injection e1 with e1
    subst e1
    refine ⟨cur, hg, fun i hi => ?_⟩
    have h1 : (cur.toList.take (l.length * 1))[i]? = (l.map Value.bool)[i]? := by rw [hx]
    rw [List.getElem?_take, if_pos (by omega), Array.getElem?_toList] at h1
    rw [h1, List.getElem?_map, List.getElem?_eq_getElem hi, bt_get hi]
    rfl
theorem own_open {w : World} {B n : Nat} {l : List Bool} {v : Value} (h : w.ownsRow B 4 1 v n (l.map Value.bool)) : ∃ A c, v = .slice A l.length c ∧ l.length ≤ c ∧ c ≤ maxLen ∧ Own B w A l := by
  have hl : n = l.length := by have := h.1; simpa using this.symm
  subst hl
  have h' := h
  rcases h.2 with ⟨h0, h1⟩ | ⟨g, cap, cur, hv, hB, hg, hn, hc, hs, hx⟩
  · exact ⟨none, 0, by rw [h0, h1], by omega, by simp [maxLen], fun h2 => by omega⟩
  · subst hv
    exact ⟨_, cap, rfl, hn, hc, fun _ => ⟨g, rfl, hB, row_of_own h'⟩⟩
theorem own_nil (w : World) (B : Nat) : w.ownsRow B 4 1 (.slice none 0 0) 0 (([] : List Bool).map Value.bool) := World.ownsRow_nil _ _ _ _
theorem own_empty (w : World) (B : Nat) (hB : B ≤ w.heap.size) : (w.alloc (.cells #[] 4)).ownsRow B 4 1 (.slice (some ⟨w.heap.size, 0, none⟩) 0 0) 0 (([] : List Bool).map Value.bool) :=
  World.ownsRow_made w #[] 0 hB (by simp [maxLen]) rfl
theorem wpList_make_bv (w : World) {ops : Array Oper} {rest : List Oper} {o : Oper} {a : Act} {Q : Exit → Act → World → Prop} (hg : o.guard = none) (x y : Operand) (hop : o.op = Op.makeSlice 82 x y)
    (L C : Int) (n : Nat) (hl : a.eval x = .int .i64 L) (hc : a.eval y = .int .i64 C) (hL : L = n) (hC : C = n) (hn : n ≤ 4096)
    (hK : ∀ w', RowF w' w.heap.size n (fun _ => false) → Below w.heap.size w w' → w.heap.size < w'.heap.size → wpList Tryz.prog ops Q rest (a.put o.dst (.slice (some ⟨w.heap.size, 0, none⟩) n n)) w') :
    wpList Tryz.prog ops Q (o :: rest) a w := by
  obtain ⟨i0, hi, hz0, hz1, hz2⟩ := info_parts bool_info
  refine wpList_make_full w hg x y 82 hop w.heap.size 4 i0 (.bool false) 1 Tryz.underlying82 hi hz0 hz1 .i64 .i64 L C n hl hc hL hC (by rw [hz2]; omega) (by simp only [maxLen]; omega) (Nat.le_refl _) ?_
  intro w' hown hgrow
  have hlen : (madeCells (Value.bool false).cells (n * 1)).toList = (List.replicate n false).map Value.bool := by
    rw [Nat.mul_one, show (Value.bool false).cells = #[.bool false] from rfl, toList_madeCells_one, List.map_replicate]
  rw [hlen] at hown
  have hlt := (hown.lt _ rfl).2
  have hr : RowF w' w.heap.size n (fun _ => false) := by
    have h1 : (List.replicate n false).length = n := by simp
    have h2 := row_of_own (l := List.replicate n false) (by rw [h1]; exact hown)
    rw [h1] at h2
    exact h2.congr fun i hi => by unfold bt; simp [hi]
  exact hK w' hr ((Below.refl _ _).grown hgrow (Nat.le_refl _) (fun k hk => by cases hk)) hlt
theorem run_append_null (w : World) (ty : TypeId) {B : Nat} {v : Value} {n : Nat} {xs : List Value} (hown : w.ownsRow B 4 1 v n xs) (c : Nat) :
    (Builtin.append_ #[82, 82] ty #[v, .slice none 0 c]).run Tryz.prog w = .ok v w := by
  obtain ⟨i0, hi, hz0, hz1, hz2⟩ := info_parts bool_info
  rcases hown.2 with ⟨rfl, rfl⟩ | ⟨g, cap, cur, rfl, _, _, hle, _⟩
  · simp [Builtin.append_, run_underlying Tryz.underlying82, sizeOf, typeInfo, hi, Builtin.lenOf, Builtin.firstCells]
  · simp [Builtin.append_, run_underlying Tryz.underlying82, sizeOf, typeInfo, hi, Builtin.lenOf, Builtin.firstCells, hle, storeCells]
theorem wpList_append_bv (w : World) {ops : Array Oper} {rest : List Oper} {o : Oper} {a : Act} {Q : Exit → Act → World → Prop} (hgd : o.guard = none) (s x : Operand)
    (ho : o.op = .call { callee := .builtin .append, args := #[s, x], argTypes := #[82, 82] })
    (B : Nat) (v : Value) (n : Nat) (xs : List Bool) (hs : a.eval s = v) (hown : w.ownsRow B 4 1 v n (xs.map Value.bool))
    (A : Option Addr) (m c : Nat) (news : List Bool) (hx : a.eval x = .slice A m c) (hm : m = news.length) (hr : Rd w A news) (hn : xs.length + news.length ≤ 16384) (hB : B ≤ w.heap.size)
    (hK : ∀ v' w', w'.ownsRow B 4 1 v' (n + m) ((xs ++ news).map Value.bool) → Below B w w' → wpList Tryz.prog ops Q rest (a.put o.dst v') w') : wpList Tryz.prog ops Q (o :: rest) a w := by
  obtain ⟨i0, hi, hz0, hz1, hz2⟩ := info_parts bool_info
  have hnl : n = xs.length := by have := hown.1; simpa using this.symm
  subst hm
  rcases A with _ | ad
  · have h0 : news = [] := by
      cases news with
      | nil => rfl
      | cons b l => obtain ⟨ad, e, _⟩ := hr (by simp); cases e
    subst h0
    refine wpList_plain hgd fun K hK' => ?_
    have hrun := run_append_null w o.type hown c
    unfold Oper.wp
    simp [execOp, ho, resolve, invoke, builtin, hs, hx, hrun, Result.andThen]
    exact hK' _ _ (hK v w (by simpa using hown) (Below.refl _ _))
  · refine wpList_append_own w hgd s x 82 ho B 4 i0 (.bool false) 1 1 Tryz.underlying82 hi hz0 hz1 hz2 rfl (by omega) v n (xs.map Value.bool) hs hown ad news.length c (news.map Value.bool) hx (by simp) ?_ ?_ (by simp only [maxLen]; omega) (by omega) hB ?_
    · intro j u hj
      rw [List.getElem?_map] at hj
      have hlt : j < news.length := by
        rcases Nat.lt_or_ge j news.length with h | h
        · exact h
        · rw [List.getElem?_eq_none h] at hj; cases hj
      obtain ⟨ad', e, _, hc⟩ := hr (by omega)
      injection e with e
      subst e
      rw [List.getElem?_eq_getElem hlt] at hj
      rw [hc j hlt, bt_get hlt]
      exact hj
    · intro u hu
      simp only [List.mem_map] at hu
      obtain ⟨b, _, rfl⟩ := hu
      rfl
    · intro v' w' hown' hgrow _
      exact hK v' w' (by rw [List.map_append]; exact hown') ((Below.refl _ _).grown hgrow hB fun k hk => (hown.lt k hk).1)
theorem eql_nil (w : World) (a : Option Addr) (n c n' c' : Nat) : (binOp .eql 82 (.slice a n c) (.slice none n' c')).run Tryz.prog w = .ok (.bool a.isNone) w := Lib.run_eql_slice_nil w _ _ a n c n' c' Tryz.underlying82
theorem clone_any (A : Option Addr) (l : List Bool) (c : Nat) (w : World) (hl : l.length ≤ 4096) (h : Rd w A l) :
    Calls Tryz.prog 174 #[.slice A l.length c] w (MkV l w) := by
  rcases A with _ | ad
  · have h0 : l = [] := by
      cases l with
      | nil => rfl
      | cons b l => obtain ⟨ad, e, _⟩ := h (by simp); cases e
    subst h0
    have q := eql_nil
    go_enter Tryz.func174, Tryz.ntmps174
    go_wp2
    go_ret
    exact ⟨none, 0, rfl, Nat.le_refl _, by simp [maxLen], fun h => absurd h (by simp), Below.refl _ _⟩
  · have H := hide h
    clear h
    have q := eql_nil
    go_enter Tryz.func174, Tryz.ntmps174
    go_wp2_with (at_builtin; refine wpList_append_bv _ rfl _ _ rfl w.heap.size _ 0 [] rfl (own_empty _ _ (Nat.le_refl _)) (some ad) _ c l rfl rfl (H.out.below ((Below.refl _ _).alloc (Nat.le_refl _) _)) (by simp; omega) (by simp) ?_; intro v' w' hown hb; obtain ⟨A', c', rfl, h1, h2, h3⟩ := own_open hown)
    go_ret
    exact ⟨A', c', rfl, h1, h2, h3, ((Below.refl _ _).alloc (Nat.le_refl _) _).trans hb⟩
theorem MkV.mk_row {l : List Bool} {w w' : World} {g n c : Nat} {F : Nat → Bool} (h : RowF w' g n F) (hl : l = bl n F) (hB : w.heap.size ≤ g) (hb : Below w.heap.size w w') (hn : n ≤ c) (hc : c ≤ maxLen) :
    MkV l w (.returned (.slice (some ⟨g, 0, none⟩) n c)) w' := by
  subst hl
  refine ⟨some ⟨g, 0, none⟩, c, by rw [bl_length], by rw [bl_length]; exact hn, hc, Own.of_row ?_ hB, hb⟩
  rw [bl_length]
  exact h.congr fun i hi => by rw [bt_bl_lt hi]
theorem max_4096 {n : Nat} (h : n ≤ 4096) : n ≤ maxLen := by simp only [maxLen]; omega
theorem addTo_nil (A : Option Addr) (c : Nat) (B : Option Addr) (m d : Nat) (w : World) :
    Calls Tryz.prog 175 #[.slice A 0 c, .slice B m d] w fun e w' => e = .returned (.tuple #[]) ∧ Below w.heap.size w w' := by
  go_enter Tryz.func175, Tryz.ntmps175
  go_wp2_with (go_at_call 176; (with_reducible refine (full_any _ _).mono ?_); rintro e w' ⟨rfl, rfl⟩)
  refine wp_loop_rounds 1 ?_
  rw [rounds_succ]
  go_wp2
  go_end0
  exact ⟨rfl, (Below.refl _ _).alloc (Nat.le_refl _) _⟩
theorem add_any (A B : Option Addr) (a b : List Bool) (c d : Nat) (w : World) (ha : a.length ≤ 4096) (hb : b.length ≤ 4096) (hA : Rd w A a) (hB : Rd w B b) :
    Calls Tryz.prog 121 #[.slice A a.length c, .slice B b.length d] w (MkV (vz a.length ((nv a : Int) + nv b)) w) := by
  have HA := hide hA
  have HB := hide hB
  clear hA hB
  rcases Nat.eq_zero_or_pos a.length with h0 | h0
  · obtain rfl : a = [] := List.eq_nil_of_length_eq_zero h0
    show Calls Tryz.prog 121 #[.slice A 0 c, .slice B b.length d] w (MkV [] w)
    clear h0
    go_enter Tryz.func121, Tryz.ntmps121
    go_wp2_with fail
    refine (clone_any A [] c w ha HA.out).mono ?_
    rintro e w1 ⟨A1, c1, rfl, h1, h2, h3, hb1⟩
    have H2 := hide h2
    have H1 := hide h1
    clear h1 h2 ha
    go_wp2_with fail
    refine (addTo_nil _ _ _ _ _ _).mono ?_
    rintro e w2 ⟨rfl, hb2⟩
    go_wp2
    go_ret
    exact ⟨A1, c1, rfl, Nat.zero_le _, H2.out, fun h => absurd h (by simp), hb1.trans (hb2.mono hb1.size)⟩
  · go_enter Tryz.func121, Tryz.ntmps121
    go_wp2_with fail
    refine (clone_any _ _ _ _ ha HA.out).mono ?_
    rintro e w1 ⟨A1, c1, rfl, h1, h2, h3, hb1⟩
    obtain ⟨g, rfl, hg, hr⟩ := h3 h0
    have H2 := hide h2
    have H1 := hide h1
    clear h1 h2
    go_wp2_with fail
    refine (addTo_any g a.length 0 a.length c1 (bt a) B b d w1 ha (by omega) hb hr ?_).mono ?_
    · intro hn
      obtain ⟨ad, e, hlt, hc⟩ := HB.out hn
      exact ⟨ad, e, by omega, fun i hi => (hb1.cell (p := ad.add i) (by rw [block_of_add]; exact hlt)).trans (hc i hi)⟩
    rintro e w2 ⟨rfl, hr2, hb2⟩
    have hf : RowF w2 g a.length (sb false (bt a) (bt b)) := hr2.congr fun i hi => by unfold Mid; rw [if_neg (by omega), if_pos (by omega)]; simp
    clear hr hr2
    go_wp2
    go_ret
    exact MkV.mk_row hf (add_spec a b).symm hg (hb1.trans (hb2.mono hg)) H1.out H2.out
def Par (k : Nat) (f : Nat → Bool) (j : Nat) : Bool := if j < k then f j else false
theorem Par.step (k : Nat) (f : Nat → Bool) (j : Nat) : (if j = k then f k else Par k f j) = Par (k + 1) f j := by
  unfold Par
  by_cases h : j = k
  · subst h; rw [if_pos rfl, if_pos (by omega)]
  · rw [if_neg h]
    by_cases h1 : j < k
    · rw [if_pos h1, if_pos (by omega)]
    · rw [if_neg h1, if_neg (by omega)]
structure SubR (w w1 : World) (n k : Nat) (f y : Nat → Bool) (wr : World) : Prop where
  row : RowF wr w.heap.size n (Par k (sb true f y))
  cry : Cry wr w1.heap.size (cy true f y k)
  bel : Below w.heap.size w wr
theorem SubR.step {w w1 wr : World} {n k : Nat} {f y : Nat → Bool} (h : SubR w w1 n k f y wr) (hg : w.heap.size < w1.heap.size) :
    SubR w w1 n (k + 1) f y ((wr.setCell ⟨w1.heap.size, 0, none⟩ (.bool ((f k && y k) || ((f k != y k) && cy true f y k)))).setCell ⟨w.heap.size, k, none⟩ (.bool (f k != (y k != cy true f y k)))).drew where
  row := (((h.row.far (p := ⟨w1.heap.size, 0, none⟩) (by simp; omega) _).set_ k _).congr fun j _ => Par.step k (sb true f y) j).drew
  cry := (h.cry.set_ _).far (by simp; omega) _
  bel := ((h.bel.setCell (by simp; omega) _).setCell (by simp) _).drew
set_option maxHeartbeats 2000000 in
theorem sub_any (A B : Option Addr) (a b : List Bool) (c d : Nat) (w : World) (ha : a.length ≤ 4096) (hb : b.length ≤ 4096) (hA : Rd w A a) (hB : Rd w B b) :
    Calls Tryz.prog 122 #[.slice A a.length c, .slice B b.length d] w (MkV (vz a.length ((nv a : Int) - nv b)) w) := by
  rw [← sub_spec]
  obtain ⟨y, hy⟩ : ∃ y : Nat → Bool, y = fun i => !bt b i := ⟨_, rfl⟩
  rw [← hy]
  have HY := hide hy
  have HA := hide hA
  have HB := hide hB
  clear hA hB hy
  go_enter Tryz.func122, Tryz.ntmps122
  go_wp2_with (first
    | (at_make; refine wpList_make_bv _ rfl _ _ rfl _ _ a.length rfl rfl rfl rfl ha ?_; intro w1 hr1 hb1 hz1)
    | (go_at_call 176; (with_reducible refine (full_any _ _).mono ?_); rintro e w' ⟨rfl, rfl⟩))
  go_loopw [14] (fun i wr => ∃ k : Nat, k ≤ a.length ∧ i = .int .i64 k ∧ SubR w w1 a.length k (bt a) y wr) (fun i _ => a.length - (intOf i).toNat)
  case atStart =>
    exact ⟨0, Nat.zero_le _, rfl, ⟨(hr1.alloc _).congr fun j _ => by simp [Par], Cry.new _ _, hb1.alloc (by omega) _⟩⟩
  case round =>
    obtain ⟨k, hk, rfl, hR⟩ := hrel
    clear hr1 hb1
    by_cases hlt : k < a.length
    · have hRH := hide hR
      have hcg : wr.cell? ⟨w.heap.size, k, none⟩ = some (.bool false) := by rw [hR.row.cell hlt]; simp [Par]
      have hf : wr.frozen? ⟨w.heap.size, k, none⟩ = false := hR.row.free _
      have hRdA := HA.out.below hR.bel
      have hRdB : Hid (Rd wr B b) := hide (HB.out.below hR.bel)
      have hcl : Hid (Cry wr w1.heap.size _) := hide hR.cry
      obtain ⟨ad, rfl, hlt1, hc0⟩ := HA.out.at_ hlt
      have hc : wr.cell? (ad.add k) = some (.bool (bt a k)) := (hR.bel.cell (p := ad.add k) (by rw [block_of_add]; exact hlt1)).trans hc0
      clear hR hRdA hc0
      go_wp2
      refine region_anyT (S := fun w1 => w1.cell? (ad.add k) = some (.bool (bt a k))) (n := 13) kr hc (fun hS inv => ?_)
      refine anyT_take (i := 0) (oi := _) (v := .slice (some ⟨w.heap.size, 0, none⟩) a.length a.length) rfl kr kr kr (by decide) (by decide) kr kr inv (fun _ _ _ h => h) (Or.inl ⟨kr, ?_⟩) hS (fun inv => ?_)
      · intro wz hSw
        go_simp
      (try simp only [Act.put, q5, q6, q7])
      refine anyT_take (i := 1) (oi := _) (v := .int .i64 k) rfl kr kr kr (by decide) (by decide) kr kr inv (fun _ _ _ h => h) (Or.inl ⟨kr, ?_⟩) hS (fun inv => ?_)
      · intro wz hSw
        go_simp
      (try simp only [Act.put, q5, q6, q7])
      refine anyT_take (i := 2) (oi := _) (v := .func (.func 196) #[] #[.pointer (some ⟨w1.heap.size, 0, none⟩)]) rfl kr kr kr (by decide) (by decide) kr kr inv (fun _ _ _ h => h) (Or.inl ⟨kr, ?_⟩) hS (fun inv => ?_)
      · intro wz hSw
        go_simp
      (try simp only [Act.put, q5, q6, q7])
      refine anyT_take (i := 3) (oi := _) (v := .slice (some ad) a.length c) rfl kr kr kr (by decide) (by decide) kr kr inv (fun _ _ _ h => h) (Or.inl ⟨kr, ?_⟩) hS (fun inv => ?_)
      · intro wz hSw
        go_simp
      (try simp only [Act.put, q5, q6, q7])
      refine anyT_take (i := 4) (oi := _) (v := .int .i64 k) rfl kr kr kr (by decide) (by decide) kr kr inv (fun _ _ _ h => h) (Or.inl ⟨kr, ?_⟩) hS (fun inv => ?_)
      · intro wz hSw
        go_simp
      (try simp only [Act.put, q5, q6, q7])
      refine anyT_take (i := 5) (oi := _) (v := .pointer (some (ad.add k))) rfl kr kr kr (by decide) (by decide) kr kr inv (fun _ _ _ h => h) (Or.inl ⟨kr, ?_⟩) hS (fun inv => ?_)
      · intro wz hSw
        go_simp
      (try simp only [Act.put, q5, q6, q7])
      refine anyT_take (i := 6) (oi := _) (v := .bool (bt a k)) rfl kr kr kr (by decide) (by decide) kr kr inv (fun _ _ _ h => h) (Or.inl ⟨kr, ?_⟩) hS (fun inv => ?_)
      · intro wz hSw
        have hSw : wz.cell? (ad.add k) = some (.bool (bt a k)) := hSw; go_simp
      (try simp only [Act.put, q5, q6, q7])
      refine anyT_take (i := 7) (oi := _) (v := .slice B b.length d) rfl kr kr kr (by decide) (by decide) kr kr inv (fun _ _ _ h => h) (Or.inl ⟨kr, ?_⟩) hS (fun inv => ?_)
      · intro wz hSw
        go_simp
      (try simp only [Act.put, q5, q6, q7])
      refine anyT_take (i := 8) (oi := _) (v := .int .i64 k) rfl kr kr kr (by decide) (by decide) kr kr inv (fun _ _ _ h => h) (Or.inl ⟨kr, ?_⟩) hS (fun inv => ?_)
      · intro wz hSw
        go_simp
      (try simp only [Act.put, q5, q6, q7])
      refine anyT_ready (rs := [9]) kr (by simp) ?_
      refine ReadyT.head (o := _) rfl (by decide) kr inv (fun K hK => ?_) ReadyT.nil
      go_simp
      refine (ext_any B b d k false wr.drew hb (by omega) hRdB.out).mono ?_
      rintro e wz ⟨rfl, rfl⟩
      rw [ex_false]
      go_wp2_with fail
      refine hK.out _ _ ?_ (fun hS inv => ?_)
      · exact hc
      clear hK K
      (try simp only [Act.put, q5, q6, q7])
      refine anyT_take (i := 10) (oi := _) (v := .bool (!bt b k)) rfl kr kr kr (by decide) (by decide) kr kr inv (fun _ _ _ h => h) (Or.inl ⟨kr, ?_⟩) hS (fun inv => ?_)
      · intro wz hSw
        go_simp
      (try simp only [Act.put, q5, q6, q7])
      refine anyT_ready (rs := [11]) kr (by simp) ?_
      refine ReadyT.head (o := _) rfl (by decide) kr inv (fun K hK => ?_) ReadyT.nil
      go_simp
      have ey : (!bt b k) = y k := by rw [HY.out]
      rw [ey]
      refine (clo_any (bt a k) (y k) (cy true (bt a) y k) w1.heap.size wr.drew hcl.out).mono ?_
      rintro e wz ⟨rfl, rfl⟩
      clear ey
      go_wp2_with fail
      refine hK.out _ _ ?_ (fun hS inv => ?_)
      · show (wr.setCell _ _).cell? _ = _; rw [World.cell?_setCell_other _ _ _ _ (by intro h; have := congrArg Addr.block h; rw [block_of_add] at this; simp at this; omega)]; exact hc
      clear hK K
      (try simp only [Act.put, q5, q6, q7])
      refine anyT_take (i := 12) (oi := _) (v := .pointer (some ⟨w.heap.size, k, none⟩)) rfl kr kr kr (by decide) (by decide) kr kr inv (fun _ _ _ h => h) (Or.inl ⟨kr, ?_⟩) hS (fun inv => ?_)
      · intro wz hSw
        go_simp
      (try simp only [Act.put, q5, q6, q7])
      have hc2 : (wr.drew.setCell ⟨w1.heap.size, 0, none⟩ (.bool ((bt a k && y k) || ((bt a k != y k) && cy true (bt a) y k)))).cell? ⟨w.heap.size, k, none⟩ = some (.bool (Par k (sb true (bt a) y) k)) := (hRH.out.row.far (p := ⟨w1.heap.size, 0, none⟩) (by simp; omega) _).cell hlt
      have hf2 : (wr.drew.setCell ⟨w1.heap.size, 0, none⟩ (.bool ((bt a k && y k) || ((bt a k != y k) && cy true (bt a) y k)))).frozen? ⟨w.heap.size, k, none⟩ = false := (hRH.out.row.far (p := ⟨w1.heap.size, 0, none⟩) (by simp; omega) _).free _
      refine anyT_ready (rs := [13]) kr (by simp) ?_
      refine ReadyT.tail (o := _) rfl (by decide) (fun K hK => ?_)
      go_simp
      refine hK.out _ _ ?_
      clear hK K
      (try simp only [Act.put, q5, q6, q7])
      refine anyT_done kr ?_ _
      go_wp2
      go_roundw
      case rel => exact ⟨k + 1, by omega, by go_num, hRH.out.step hz1⟩
      case measure => simp [intOf]; omega
    · have hRH := hide hR
      clear hR
      go_wp2
      go_ret
      have e : k = a.length := by omega
      subst e
      exact MkV.mk_row hRH.out.row (bl_congr fun i hi => by simp [Par, hi]) (Nat.le_refl _) hRH.out.bel (Nat.le_refl _) (max_4096 ha)
theorem neg2_any (A : Option Addr) (a : List Bool) (c : Nat) (w : World) (ha : a.length ≤ 4096) (hA : Rd w A a) :
    Calls Tryz.prog 198 #[.slice A a.length c] w (MkV (vz a.length (-(nv a : Int))) w) := by
  have HA := hide hA
  clear hA
  go_enter Tryz.func198, Tryz.ntmps198
  go_wp2_with (first
    | (at_make; refine wpList_make_bv _ rfl _ _ rfl _ _ a.length rfl rfl rfl rfl ha ?_; intro w1 hr1 hb1 hz1))
  have hl : (bl a.length fun _ => false).length = a.length := bl_length _ _
  have hn : nv (bl a.length fun _ => false) = 0 := by
    rw [nv_bl]; clear ha HA hr1 hl; generalize a.length = m; induction m with
    | zero => rfl
    | succ m ih => rw [nf_succ, ih]; simp
  have h := sub_any (some ⟨w.heap.size, 0, none⟩) A (bl a.length fun _ => false) a a.length c w1 (by rw [hl]; exact ha) ha
    (Own.rd (B := 0) (fun _ => ⟨_, rfl, Nat.zero_le _, by rw [hl]; exact hr1.congr fun i hi => (bt_bl_lt (f := fun _ => false) hi).symm⟩)) (HA.out.below hb1)
  rw [hl, hn, show ((0 : Nat) : Int) - (nv a : Int) = -(nv a : Int) from by omega] at h
  have H := hide h
  clear h hl hn hr1
  refine (H.out).mono ?_
  rintro e w2 ⟨A2, c2, rfl, h1, h2, h3, hb2⟩
  have H2 := hide h2
  have H1 := hide h1
  clear h1 h2 H
  go_wp2
  go_ret
  exact ⟨A2, c2, rfl, H1.out, H2.out, h3.base (by omega), hb1.trans (hb2.mono (by omega))⟩
end
section
theorem zb_eq_of {f : Nat → Bool} {z : Int} (h : ∀ n, (nf f n : Int) = z % 2 ^ n) (i : Nat) : zb z i = f i := by
  have h1 := h (i + 1)
  have h2 := nf_zb z (i + 1)
  exact (nf_inj (f := zb z) (g := f) (n := i + 1) (by omega) i (by omega))
theorem zb_nv (a : List Bool) (i : Nat) : zb (nv a) i = bt a i := by
  refine zb_eq_of (fun n => ?_) i
  rw [nf_bt_mod, ← two_cast]; omega
theorem zb_sv (a : List Bool) (i : Nat) : zb (sv a) i = ex a (ng a) i := by
  have key : ∀ n, a.length ≤ n → (nf (ex a (ng a)) n : Int) = sv a % 2 ^ n := by
    intro n hn
    cases h : ng a
    · rw [ex_false, nf_bt hn]
      unfold sv; rw [h]
      have k := nv_lt a
      have k2 : 2 ^ a.length ≤ 2 ^ n := Nat.pow_le_pow_right (by decide) hn
      have e := two_cast n
      simp only [Bool.false_eq_true, if_false]
      rw [Int.emod_eq_of_lt (by omega) (by omega)]
    · rw [nf_ex_true a n hn]
      unfold sv; rw [h]
      have k := nv_lt a
      have k2 : 2 ^ a.length ≤ 2 ^ n := Nat.pow_le_pow_right (by decide) hn
      have e := two_cast n
      have e2 := two_cast a.length
      simp only [if_true]
      rw [show (nv a : Int) - 2 ^ a.length = ((2 : Int) ^ n - 2 ^ a.length + nv a) + 2 ^ n * (-1) from by omega, Int.add_mul_emod_self_left, Int.emod_eq_of_lt (by omega) (by omega)]
  have h1 := key (max a.length (i + 1)) (by omega)
  have h2 := nf_zb (sv a) (max a.length (i + 1))
  exact nf_inj (f := zb (sv a)) (g := ex a (ng a)) (n := max a.length (i + 1)) (by omega) i (by omega)
theorem zb_div (z : Int) (m i : Nat) : zb (z / 2 ^ m) i = zb z (i + m) := by
  unfold zb
  rw [Int.ediv_ediv_of_nonneg (Int.le_of_lt (two_pos m)), ← Int.pow_add, Nat.add_comm m i]
theorem zb_mul (z : Int) (m i : Nat) : zb (z * 2 ^ m) i = if i < m then false else zb z (i - m) := by
  unfold zb
  split
  · rename_i h
    obtain ⟨d, rfl⟩ : ∃ d, m = i + (d + 1) := ⟨m - i - 1, by omega⟩
    rw [Int.pow_add, ← Int.mul_assoc, Int.mul_comm z, Int.mul_assoc, Int.mul_ediv_cancel_left _ (Int.ne_of_gt (two_pos i)), Int.pow_succ, ← Int.mul_assoc]
    apply decide_eq_false; omega
  · rename_i h
    obtain ⟨d, rfl⟩ : ∃ d, i = m + d := ⟨i - m, by omega⟩
    rw [Int.pow_add, ← Int.ediv_ediv_of_nonneg (Int.le_of_lt (two_pos m)), Int.mul_ediv_cancel _ (Int.ne_of_gt (two_pos m))]
    rw [show m + d - m = d from by omega]
theorem shl_spec (a : List Bool) (k : Nat) : bl a.length (fun i => if i < min k a.length then false else bt a (i - min k a.length)) = vz a.length ((nv a : Int) * 2 ^ k) := by
  refine bl_congr fun i hi => ?_
  rw [zb_mul]
  by_cases h : i < k
  · rw [if_pos h, if_pos (by omega)]
  · rw [if_neg h, if_neg (by omega), zb_nv, show min k a.length = k by omega]
theorem nf_Mid_val (f : Nat → Bool) (p m : Nat) : (nf f (p + m) : Nat) = nf f p + 2 ^ p * nf (fun i => f (p + i)) m := by
  induction m with
  | zero => simp [nf]
  | succ m ih => rw [← Nat.add_assoc, nf_succ, ih, nf_succ, Nat.pow_add, Nat.mul_add, Nat.mul_assoc]; omega
theorem odd_pow (a : Int) (h : a % 2 = 1) (n : Nat) : a ^ (2 ^ n) % 2 ^ n = 1 % 2 ^ n := by
  induction n with
  | zero => simp [Int.emod_one]
  | succ n ih =>
    obtain ⟨q, hq⟩ : ∃ q, a ^ (2 ^ n) = 1 + 2 ^ n * q := by
      have d : (2 ^ n : Int) ∣ a ^ (2 ^ n) - 1 := Int.dvd_of_emod_eq_zero (by rw [Int.sub_emod, ih, Int.sub_self, Int.zero_emod])
      obtain ⟨q, hq⟩ := d
      exact ⟨q, by omega⟩
    rw [Nat.pow_succ, Int.pow_mul, hq]
    rcases Nat.eq_zero_or_pos n with h0 | h0
    · subst h0
      have hq' : a = 1 + q := by simp at hq; rw [Int.pow_one] at hq; exact hq
      obtain ⟨r, rfl⟩ : ∃ r, q = 2 * r := ⟨q / 2, by omega⟩
      have e : ((1 : Int) + 2 ^ 0 * (2 * r)) ^ 2 = 1 + 2 ^ (0 + 1) * (2 * r + 2 * r * r) := by simp; grind
      rw [e, Int.add_mul_emod_self_left]
    · obtain ⟨m, rfl⟩ : ∃ m, n = m + 1 := ⟨n - 1, by omega⟩
      have p1 : (2 : Int) ^ (m + 1 + 1) = 2 ^ m * 4 := by rw [Int.pow_succ, Int.pow_succ]; omega
      have p2 : (2 : Int) ^ (m + 1) = 2 ^ m * 2 := Int.pow_succ ..
      have e : ((1 : Int) + 2 ^ (m + 1) * q) ^ 2 = 1 + 2 ^ (m + 1 + 1) * (q + 2 ^ m * q * q) := by
        rw [p1, p2]; grind
      rw [e, Int.add_mul_emod_self_left]
theorem even_pow (a : Int) (h : a % 2 = 0) (n k : Nat) (hk : n ≤ k) : a ^ k % 2 ^ n = 0 := by
  obtain ⟨b, rfl⟩ : ∃ b, a = 2 * b := ⟨a / 2, by omega⟩
  obtain ⟨d, rfl⟩ : ∃ d, k = n + d := ⟨k - n, by omega⟩
  rw [Int.mul_pow, Int.pow_add, Int.mul_assoc]
  exact Int.mul_emod_right _ _
theorem lt_two_pow (n : Nat) : n < 2 ^ n := Nat.lt_two_pow_self
theorem pow_stays (a : Int) (n i : Nat) (hi : n ≤ i) : a ^ (2 ^ i) % 2 ^ n = a ^ (2 ^ n) % 2 ^ n := by
  rcases (show a % 2 = 0 ∨ a % 2 = 1 by omega) with h | h
  · rw [even_pow a h n _ (Nat.le_of_lt (lt_two_pow n)), even_pow a h n _ (Nat.le_trans hi (Nat.le_of_lt (lt_two_pow i)))]
  · rw [odd_pow a h n]
    obtain ⟨d, rfl⟩ : ∃ d, i = n + d := ⟨i - n, by omega⟩
    have h1 := odd_pow a h (n + d)
    have dv : (2 : Int) ^ n ∣ 2 ^ (n + d) := ⟨2 ^ d, Int.pow_add ..⟩
    rw [← Int.emod_emod_of_dvd _ dv, h1, Int.emod_emod_of_dvd _ dv]
theorem pow_mod (a b : Int) (n k : Nat) (h : a % 2 ^ n = b % 2 ^ n) : a ^ k % 2 ^ n = b ^ k % 2 ^ n := by
  induction k with
  | zero => rw [Int.pow_zero, Int.pow_zero]
  | succ k ih => rw [Int.pow_succ, Int.pow_succ, Int.mul_emod, ih, h, ← Int.mul_emod]
end
section
open Go.RowKit
set_option maxRecDepth 100000
set_option linter.unusedSimpArgs false
set_option linter.unusedVariables false
structure FillR (w : World) (n k : Nat) (f : Nat → Bool) (wr : World) : Prop where
  row : RowF wr w.heap.size n (Par k f)
  bel : Below w.heap.size w wr
theorem FillR.step {w wr : World} {n k : Nat} {f : Nat → Bool} (h : FillR w n k f wr) : FillR w n (k + 1) f (wr.setCell ⟨w.heap.size, k, none⟩ (.bool (f k))) where
  row := (h.row.set_ k _).congr fun j _ => Par.step k f j
  bel := h.bel.setCell (by simp) _
theorem FillR.start {w w1 : World} {n : Nat} {f : Nat → Bool} (h : RowF w1 w.heap.size n (fun _ => false)) (hb : Below w.heap.size w w1) : FillR w n 0 f w1 := ⟨h.congr fun j _ => by simp [Par], hb⟩
theorem FillR.drew {w wr : World} {n k : Nat} {f : Nat → Bool} (h : FillR w n k f wr) : FillR w n k f wr.drew := ⟨h.row.drew, h.bel.drew⟩
theorem FillR.done {w wr : World} {n c : Nat} {f : Nat → Bool} {l : List Bool} (h : FillR w n n f wr) (hl : l = bl n f) (hn : n ≤ 4096) : MkV l w (.returned (.slice (some ⟨w.heap.size, 0, none⟩) n n)) wr :=
  MkV.mk_row h.row (hl.trans (bl_congr fun i hi => by simp [Par, hi])) (Nat.le_refl _) h.bel (Nat.le_refl _) (max_4096 hn)
set_option maxHeartbeats 1000000 in
theorem one_any (n : Nat) (w : World) (hn : n ≤ 4096) :
    Calls Tryz.prog 182 #[.int .i64 n] w (MkV (vz n 1) w) := by
  by_cases h0 : 0 < n
  · go_enter Tryz.func182, Tryz.ntmps182
    go_wp2_with (at_make; refine wpList_make_bv _ rfl _ _ rfl _ _ n rfl rfl rfl rfl hn ?_; intro w1 hr1 hb1 hz1; have hRH := hide hr1; have hcg := hr1.cell h0; have hf := hr1.free 0; clear hr1)
    go_ret
    exact MkV.mk_row (hRH.out.set_ 0 true) (bl_congr fun i hi => by
      unfold zb
      by_cases h : i = 0
      · subst h; simp
      · obtain ⟨j, rfl⟩ : ∃ j, i = j + 1 := ⟨i - 1, by omega⟩
        rw [if_neg h]
        have := two_pos j
        rw [Int.pow_succ, Int.ediv_eq_zero_of_lt (by omega) (by omega)]; rfl) (Nat.le_refl _) (hb1.setCell (by simp) _) (Nat.le_refl _) (max_4096 hn)
  · obtain rfl : n = 0 := by omega
    clear h0 hn
    go_enter Tryz.func182, Tryz.ntmps182
    go_wp2_with (at_make; refine wpList_make_bv _ rfl _ _ rfl _ _ 0 rfl rfl rfl rfl (by omega) ?_; intro w1 hr1 hb1 hz1; have hRH := hide hr1; clear hr1)
    go_ret
    exact MkV.mk_row hRH.out rfl (Nat.le_refl _) hb1 (Nat.le_refl _) (by simp [maxLen])
theorem mag_any (A : Option Addr) (a : List Bool) (c : Nat) (w : World) (ha : a.length ≤ 4096) (hA : Rd w A a) :
    Calls Tryz.prog 197 #[.slice A a.length c] w fun e w' => ∃ A2 c2, e = .returned (.slice A2 (vz a.length (mg a)).length c2) ∧ Rd w' A2 (vz a.length (mg a)) ∧ Below w.heap.size w w' := by
  cases hx : ng a
  · have e : vz a.length (mg a) = a := by
      have : (mg a : Int) = nv a := by unfold mg sv; rw [hx]; simp
      rw [this, vz_nv]
    rw [e]
    have HA := hide hA
    clear e hA
    go_enter Tryz.func197, Tryz.ntmps197
    go_wp2_with (first
      | (go_at_call 171; (with_reducible refine (neg_any _ _ _ _ ha HA.out).mono ?_); rintro e w' ⟨rfl, rfl⟩))
    go_ret
    exact ⟨A, c, rfl, HA.out, Below.refl _ _⟩
  · have e : vz a.length (mg a) = vz a.length (-(nv a : Int)) := by
      have : (mg a : Int) = -(nv a : Int) + 2 ^ a.length * 1 := by
        have k := nv_lt a
        have p := two_cast a.length
        have q : sv a = (nv a : Int) - 2 ^ a.length := by unfold sv; rw [hx]; simp
        unfold mg; omega
      rw [this]; exact vz_eq (Int.add_mul_emod_self_left ..)
    rw [e]
    have HA := hide hA
    clear e hA
    go_enter Tryz.func197, Tryz.ntmps197
    go_wp2_with (first
      | (go_at_call 171; (with_reducible refine (neg_any _ _ _ _ ha HA.out).mono ?_); rintro e w' ⟨rfl, rfl⟩)
      | (go_at_call 198; (with_reducible refine (neg2_any _ _ _ _ ha HA.out).mono ?_); rintro e w' ⟨A2, c2, rfl, h1, h2, h3, hb⟩; have H1 := hide h1; have H2 := hide h2; clear h1 h2))
    go_ret
    exact ⟨A2, c2, rfl, h3.rd, hb⟩
end
section
open Go.RowKit
set_option maxRecDepth 100000
set_option linter.unusedSimpArgs false
set_option linter.unusedVariables false
theorem bool_size : (Tryz.prog.info? 4).map (·.size) = some 1 := by kernel_rfl
theorem splice_at {n m : Nat} {cs : List Value} {a : List Bool} {F : Nat → Bool} (hm : m ≤ n) (ha : a.length = n) (hF : ∀ i, i < n → cs[i]? = some (.bool (F i))) (i : Nat) (hi : i < n) :
    (splice cs m ((a.take (n - m)).map Value.bool))[i]? = some (.bool (if i < m then F i else bt a (i - m))) := by
  unfold splice
  have hlen : m ≤ cs.length := by
    rcases Nat.lt_or_ge i cs.length with h | h
    · rcases Nat.eq_zero_or_pos n with h0 | h0
      · omega
      · have := hF (n - 1) (by omega)
        rcases Nat.lt_or_ge (n - 1) cs.length with h1 | h1
        · omega
        · rw [List.getElem?_eq_none h1] at this; cases this
    · have := hF i hi; rw [List.getElem?_eq_none h] at this; cases this
  by_cases h : i < m
  · rw [List.getElem?_append_left (by simp; omega), List.getElem?_take, if_pos h, if_pos h]
    exact hF i hi
  · rw [List.getElem?_append_right (by simp; omega), if_neg h]
    have e : (List.take m cs).length = m := by simp; omega
    rw [e, List.getElem?_append_left (by simp; omega), List.getElem?_map, List.getElem?_take, if_pos (by omega), List.getElem?_eq_getElem (by omega), bt_get (by omega)]
    rfl
def ShlF (a : List Bool) (m : Nat) (i : Nat) : Bool := if i < m then false else bt a (i - m)
theorem row_open {w : World} {g n : Nat} {F : Nat → Bool} (h : RowF w g n F) : ∃ cs : List Value, Hid (w.heap[g]? = some (.cells cs.toArray 4 (0, 0))) ∧ Hid (∀ i, i < n → cs[i]? = some (.bool (F i))) ∧ n ≤ cs.length := by
  obtain ⟨cs, hg, hc⟩ := h
  refine ⟨cs.toList, hide hg, hide fun i hi => by rw [Array.getElem?_toList]; exact hc i hi, ?_⟩
  rcases Nat.eq_zero_or_pos n with h0 | h0
  · omega
  · have := hc (n - 1) (by omega)
    rcases Nat.lt_or_ge (n - 1) cs.size with h1 | h1
    · simp; omega
    · rw [Array.getElem?_eq_none h1] at this; cases this
theorem bools_one (l : List Bool) : ∀ v ∈ l.map Value.bool, v.oneCell' = true := by
  intro v hv
  simp only [List.mem_map] at hv
  obtain ⟨b, _, rfl⟩ := hv
  rfl
set_option maxHeartbeats 1000000 in
theorem shl_any (A : Option Addr) (a : List Bool) (c : Nat) (k : Int) (w : World) (ha : a.length ≤ 4096) (hA : Rd w A a) :
    Calls Tryz.prog 200 #[.slice A a.length c, .int .i64 k] w (MkV (vz a.length ((nv a : Int) * 2 ^ k.toNat)) w) := by
  rw [← shl_spec]
  have HA := hide hA
  clear hA
  obtain ⟨m, hm⟩ : ∃ m, m = min k.toNat a.length := ⟨_, rfl⟩
  have hm1 : m ≤ a.length := by omega
  rw [← hm]
  have hd : Hid (∀ w, Calls Tryz.prog 204 #[.slice A a.length c, .int .i64 k] w fun e w' => e = .returned (.int .i64 m) ∧ w = w') := hide (by rw [hm]; exact fun w => dist_any A a.length c k w ha)
  clear hm
  show Calls _ _ _ _ (MkV (bl a.length (ShlF a m)) w)
  by_cases hme : a.length = m
  · subst hme
    go_enter Tryz.func200, Tryz.ntmps200
    go_wp2_with (first
      | (go_at_call 204; (with_reducible refine (hd.out _).mono ?_); rintro e w' ⟨rfl, rfl⟩)
      | (at_make; refine wpList_make_bv _ rfl _ _ rfl _ _ a.length rfl rfl rfl rfl ha ?_; intro w1 hr1 hb1 hz1; obtain ⟨cs, hg, hcs, hlen⟩ := row_open hr1; clear hr1)
      | ((show wpList _ _ _ (⟨some 15, _, _, _, _, _⟩ :: _) _ _); refine wpList_copy_splice rfl (.tmp 13) (.tmp 14) 82 82 rfl 4 Tryz.underlying82 bool_size _ _ 0 0 a.length c rfl rfl w.heap.size 0 cs 4 hg.out [] (by simp) (by simp) (by simp) (by simp) w.heap.size w hb1 (Nat.le_refl _) ?_; intro w2 hg2 hb2))
    go_ret
    refine MkV.mk_row (F := ShlF a a.length) ?_ rfl (Nat.le_refl _) hb2 (Nat.le_refl _) (max_4096 ha)
    refine ⟨_, hg2.out, fun i hi => ?_⟩
    have h := hcs.out i hi
    unfold ShlF
    rw [if_pos hi]
    simpa [splice] using h
  · have hmlt : m < a.length := by omega
    obtain ⟨X, hX⟩ : ∃ X, X = (a.take (a.length - m)).map Value.bool := ⟨_, rfl⟩
    have HX := hide hX
    have hXl : X.length = a.length.min (a.length - m) := by rw [hX]; simp
    have hXm : m + X.length ≤ a.length := by rw [hXl]; have := Nat.min_le_right a.length (a.length - m); show m + min a.length (a.length - m) ≤ a.length; omega
    have HXl := hide hXl
    have hX1 : Hid (∀ v ∈ X, v.oneCell' = true) := hide (by rw [hX]; exact bools_one _)
    have hsrc : Hid (∀ w', Below w.heap.size w w' → 0 < X.length → ∃ ad, A = some ad ∧ ∀ j v, X[j]? = some v → w'.cell? (ad.add j) = some v) := hide (fun w' hb _ => by
      obtain ⟨ad, e, hlt, hc⟩ := HA.out (by omega)
      refine ⟨ad, e, fun j v hj => ?_⟩
      rw [hX, List.getElem?_map, List.getElem?_take] at hj
      split at hj
      · rename_i h1
        have h2 : j < a.length := by omega
        rw [List.getElem?_eq_getElem h2] at hj
        rw [hb.cell (p := ad.add j) (by rw [block_of_add]; exact hlt), hc j h2, bt_get h2]
        exact hj
      · cases hj)
    clear hX hXl
    have hme' : Hid (¬ a.length = m) := hide hme
    go_enter Tryz.func200, Tryz.ntmps200
    go_wp2_with (first
      | (go_at_call 204; (with_reducible refine (hd.out _).mono ?_); rintro e w' ⟨rfl, rfl⟩)
      | (at_make; refine wpList_make_bv _ rfl _ _ rfl _ _ a.length rfl rfl rfl rfl ha ?_; intro w1 hr1 hb1 hz1; obtain ⟨cs, hg, hcs, hlen⟩ := row_open hr1; clear hr1)
      | ((show wpList _ _ _ (⟨some 15, _, _, _, _, _⟩ :: _) _ _); refine wpList_copy_splice rfl (.tmp 13) (.tmp 14) 82 82 rfl 4 Tryz.underlying82 bool_size  (some ⟨w.heap.size, m, none⟩) A (a.length - m) (a.length - m) a.length c rfl rfl w.heap.size m cs 4 hg.out X HXl.out (fun h => ⟨rfl, hsrc.out _ hb1 h⟩) (Nat.le_trans hXm hlen) hX1.out w.heap.size w hb1 (Nat.le_refl _) ?_; intro w2 hg2 hb2))
    go_ret
    refine MkV.mk_row (F := ShlF a m) ?_ rfl (Nat.le_refl _) hb2 (Nat.le_refl _) (max_4096 ha)
    refine ⟨_, hg2.out, fun i hi => ?_⟩
    rw [HX.out]
    have h := splice_at hm1 rfl hcs.out i hi
    unfold ShlF
    split <;> simp_all
end
section
open Go.RowKit
set_option maxRecDepth 100000
set_option linter.unusedSimpArgs false
set_option linter.unusedVariables false
theorem nf_Mid (F y : Nat → Bool) (k m : Nat) : nf (Mid k m F y) (k + m) = nf F k + 2 ^ k * nf (sb false (fun i => F (k + i)) y) m := by
  rw [nf_Mid_val]
  have h1 : nf (Mid k m F y) k = nf F k := nf_congr fun i hi => by unfold Mid; rw [if_pos hi]
  have h2 : nf (fun i => Mid k m F y (k + i)) m = nf (sb false (fun i => F (k + i)) y) m := nf_congr fun i hi => by
    unfold Mid
    rw [if_neg (by omega), if_pos (by omega), show k + i - k = i by omega]
  rw [h1, h2]
theorem mul_step (P a : Int) (l : List Bool) (k m n : Nat) (hn : k + m = n) (ha : (nv l : Int) = a) (j : Nat) (hj : j < n) : Mid k m (zb P) (bt l) j = zb (P + 2 ^ k * a) j := by
  subst hn; subst ha
  refine nf_inj (n := k + m) ?_ j hj
  have h1 := nf_Mid (zb P) (bt l) k m
  have h2 := nf_zb (P + 2 ^ k * nv l) (k + m)
  have h3 := nf_sb false (fun i => zb P (k + i)) (bt l) m
  have h4 := nf_Mid_val (zb P) k m
  have h5 := nf_zb P (k + m)
  have h6 := nf_bt_mod l m
  have hlt := nf_lt (Mid k m (zb P) (bt l)) (k + m)
  simp only [Bool.toNat_false, Nat.add_zero] at h3
  rw [h6] at h3
  generalize nf (Mid k m (zb P) (bt l)) (k + m) = N at *
  generalize nf (sb false (fun i => zb P (k + i)) (bt l)) m = s at *
  generalize (cy false (fun i => zb P (k + i)) (bt l) m).toNat = c at *
  generalize nf (zb P) k = p0 at *
  generalize nf (fun i => zb P (k + i)) m = p1 at *
  generalize nf (zb P) (k + m) = p at *
  have e1 : (N : Int) = P + 2 ^ k * (nv l : Int) - 2 ^ (k + m) * ((c : Int) + P / 2 ^ (k + m) + (nv l / 2 ^ m : Nat)) := by
    have d := Nat.mod_add_div (nv l) (2 ^ m)
    generalize nv l % 2 ^ m = r at *
    generalize nv l / 2 ^ m = q at *
    have d1 := Int.emod_add_mul_ediv P (2 ^ (k + m))
    rw [← h5] at d1
    have h1' : (N : Int) = p0 + 2 ^ k * s := by rw [h1]; simp
    have h3' : (s : Int) + 2 ^ m * c = p1 + r := by have := congrArg (Nat.cast (R := Int)) h3; simpa using this
    have h4' : (p : Int) = p0 + 2 ^ k * p1 := by rw [h4]; simp
    have d' : (r : Int) + 2 ^ m * q = nv l := by have := congrArg (Nat.cast (R := Int)) d; simpa using this
    have e : (2 : Int) ^ (k + m) = 2 ^ k * 2 ^ m := Int.pow_add ..
    rw [e] at d1 ⊢
    generalize (2 : Int) ^ k = K at *
    generalize (2 : Int) ^ m = M at *
    generalize P / (K * M) = t at *
    grind
  have e2 : (N : Int) % 2 ^ (k + m) = (P + 2 ^ k * (nv l : Int)) % 2 ^ (k + m) := by
    rw [e1, Int.sub_emod, Int.mul_emod_right, Int.sub_zero, Int.emod_emod]
  have e3 : (N : Int) % 2 ^ (k + m) = N := Int.emod_eq_of_lt (by omega) (by rw [← two_cast]; omega)
  omega
structure MulR (w : World) (n : Nat) (P : Int) (wr : World) : Prop where
  row : RowF wr w.heap.size n (zb P)
  bel : Below w.heap.size w wr
theorem zb_zero (i : Nat) : zb 0 i = false := by unfold zb; simp
set_option maxHeartbeats 1000000 in
theorem mul_any (A B : Option Addr) (a b : List Bool) (c d : Nat) (w : World) (ha : a.length ≤ 4096) (hb : b.length ≤ 4096) (hA : Rd w A a) (hB : Rd w B b) :
    Calls Tryz.prog 123 #[.slice A a.length c, .slice B b.length d] w (MkV (vz a.length ((nv a : Int) * nv b)) w) := by
  have HA := hide hA
  have HB := hide hB
  clear hA hB
  go_enter Tryz.func123, Tryz.ntmps123
  go_wp2_with (first
    | (at_make; refine wpList_make_bv _ rfl _ _ rfl _ _ a.length rfl rfl rfl rfl ha ?_; intro w1 hr1 hb1 hz1))
  all_goals
    go_loopw [15] (fun i wr => ∃ k : Nat, k ≤ min a.length b.length ∧ i = .int .i64 k ∧ MulR w a.length ((nv a : Int) * nf (bt b) k) wr) (fun i _ => min a.length b.length - (intOf i).toNat)
    case atStart => exact ⟨0, Nat.zero_le _, rfl, ⟨hr1.congr fun j _ => by simp [nf, zb_zero], hb1⟩⟩
    case round =>
      obtain ⟨k, hk, rfl, hR⟩ := hrel
      have hRH := hide hR
      clear hr1 hb1 hR
      by_cases hlt : k < min a.length b.length
      · have hka : k < a.length := by omega
        have hkb : k < b.length := by omega
        have hRdB := HB.out.below hRH.out.bel
        obtain ⟨ad, rfl, hlt1, hc⟩ := hRdB.at_ hkb
        clear hRdB
        have hs := hide (nf_succ (bt b) k)
        cases hx : bt b k
        · go_wp2
          go_roundw
          case rel => exact ⟨k + 1, by omega, by go_num, ⟨by rw [hs.out, hx]; simpa using hRH.out.row, hRH.out.bel⟩⟩
          case measure => simp [intOf]; omega
        · have hne : ¬ a.length = k := by omega
          go_wp2_with fail
          refine (addTo_any w.heap.size a.length k (a.length - k) (a.length - k) _ A a c wr (by omega) (by omega) ha hRH.out.row ?_).mono ?_
          · intro hn
            obtain ⟨ad2, e, hl, hc2⟩ := HA.out hn
            exact ⟨ad2, e, hl, fun i hi => (hRH.out.bel.cell (p := ad2.add i) (by rw [block_of_add]; exact hl)).trans (hc2 i hi)⟩
          rintro e w2 ⟨rfl, hr2, hb2⟩
          have hr3 : RowF w2 w.heap.size a.length (zb ((nv a : Int) * nf (bt b) (k + 1))) := hr2.congr fun j hj => by
            rw [mul_step _ _ a k (a.length - k) a.length (by omega) rfl j hj, hs.out, hx]
            congr 1
            simp only [Bool.toNat_true, Nat.mul_one, Int.natCast_add, Int.mul_add, two_cast]
            rw [Int.mul_comm (2 ^ k)]
          have hR3 := hide hr3
          clear hr2 hr3
          go_wp2
          go_roundw
          case rel => exact ⟨k + 1, by omega, by go_num, ⟨hR3.out, hRH.out.bel.trans hb2⟩⟩
          case measure => simp [intOf]; omega
      · go_wp2
        go_ret
        have e : k = min a.length b.length := by omega
        subst e
        refine MkV.mk_row hRH.out.row ?_ (Nat.le_refl _) hRH.out.bel (Nat.le_refl _) (max_4096 ha)
        show vz _ _ = vz _ _
        rcases Nat.le_total b.length a.length with h | h
        · rw [Nat.min_eq_right h, nf_bt (Nat.le_refl _)]
        · rw [Nat.min_eq_left h, nf_bt_mod]
          apply vz_eq
          rw [Int.natCast_emod, two_cast, Int.mul_emod _ ((nv b : Int) % _), Int.emod_emod, ← Int.mul_emod]
theorem pow_even {P : Int} {a n k : Nat} (w : Nat) (h : P % 2 ^ w = (a : Int) ^ n % 2 ^ w) : P % 2 ^ w = (a : Int) ^ (n + 2 ^ k * 0) % 2 ^ w := by simpa using h
theorem pow_odd {P S : Int} {a n k : Nat} (w : Nat) (h : P % 2 ^ w = (a : Int) ^ n % 2 ^ w) (g : S % 2 ^ w = (a : Int) ^ (2 ^ k) % 2 ^ w) : (P * S) % 2 ^ w = (a : Int) ^ (n + 2 ^ k * 1) % 2 ^ w := by
  rw [Nat.mul_one, Int.pow_add, Int.mul_emod, h, g, ← Int.mul_emod]
theorem pow_sq {S : Int} {a k : Nat} (w : Nat) (g : S % 2 ^ w = (a : Int) ^ (2 ^ k) % 2 ^ w) : (S * S) % 2 ^ w = (a : Int) ^ (2 ^ (k + 1)) % 2 ^ w := by
  rw [Int.mul_emod, g, ← Int.mul_emod, ← Int.pow_add, Nat.pow_succ, Nat.mul_two]
theorem pow_sq2 {S : Int} {a k : Nat} (w : Nat) (hk : w ≤ k) (g : S % 2 ^ w = (a : Int) ^ (2 ^ k) % 2 ^ w) : S % 2 ^ w = (a : Int) ^ (2 ^ (k + 1)) % 2 ^ w := by
  rw [g, pow_stays _ w k hk, pow_stays _ w (k + 1) (by omega)]
structure PowR (w : World) (n a : Nat) (b : List Bool) (k : Nat) (p s : List Bool) (A S : Option Addr) (wr : World) : Prop where
  lp : p.length = n
  ls : s.length = n
  pw : (nv p : Int) % 2 ^ n = (a : Int) ^ (nf (bt b) k) % 2 ^ n
  sq : (nv s : Int) % 2 ^ n = (a : Int) ^ (2 ^ k) % 2 ^ n
  op : Own w.heap.size wr A p
  rs : Rd wr S s
  bel : Below w.heap.size w wr
theorem nv_vz_mod (w : Nat) (z : Int) : (nv (vz w z) : Int) % 2 ^ w = z % 2 ^ w := by rw [nv_vz, Int.emod_emod]
set_option maxHeartbeats 1000000 in
theorem pow_any (A B : Option Addr) (a b : List Bool) (c d : Nat) (w : World) (ha : a.length ≤ 4096) (hb : b.length ≤ 4096) (hA : Rd w A a) (hB : Rd w B b) :
    Calls Tryz.prog 142 #[.slice A a.length c, .slice B b.length d] w (MkV (vz a.length ((nv a : Int) ^ nv b)) w) := by
  have HA := hide hA
  have HB := hide hB
  clear hA hB
  go_enter Tryz.func142, Tryz.ntmps142
  go_wp2_with (go_at_call 182; (with_reducible refine (one_any _ _ ha).mono ?_); rintro e w1 ⟨A1, c1, rfl, h1, h2, h3, hb1⟩; have H1 := hide h1; have H2 := hide h2; have H3 := hide h3; clear h1 h2 h3)
  go_loopw [5, 6, 14] (fun x y i wr => ∃ (k : Nat) (p s : List Bool) (P S : Option Addr) (cp cs : Nat), k ≤ b.length ∧ x = .slice P p.length cp ∧ p.length ≤ cp ∧ cp ≤ maxLen ∧ y = .slice S s.length cs ∧ i = .int .i64 k ∧ PowR w a.length (nv a) b k p s P S wr) (fun _ _ i _ => b.length - (intOf i).toNat)
  case atStart =>
    exact ⟨0, _, a, A1, A, c1, c, Nat.zero_le _, rfl, H1.out, H2.out, rfl, rfl, ⟨vz_length _ _, rfl, by rw [nv_vz_mod]; simp [nf], by rw [Nat.pow_zero, Int.pow_one], H3.out, HA.out.below hb1, hb1⟩⟩
  case round =>
    obtain ⟨k, p, s, P, S, cp, cs, hk, rfl, hc1, hc2, rfl, rfl, hR⟩ := hrel
    have hRH := hide hR
    have hlp := hide hR.lp
    have hls := hide hR.ls
    have HC1 := hide hc1
    have HC2 := hide hc2
    clear hR hb1 hc1 hc2
    have hp4 : p.length ≤ 4096 := by have := hlp.out; omega
    have hs4 : s.length ≤ 4096 := by have := hls.out; omega
    by_cases hlt : k < b.length
    · have hRdB := HB.out.below hRH.out.bel
      obtain ⟨ad, rfl, hlt1, hc⟩ := hRdB.at_ hlt
      clear hRdB
      have hst := hide (nf_succ (bt b) k)
      cases hx : bt b k <;> by_cases hka : k < a.length
      · go_wp2_with fail
        refine (mul_any S S s s cs cs wr hs4 hs4 hRH.out.rs hRH.out.rs).mono ?_
        rintro e w2 ⟨S2, cs2, rfl, g1, g2, g3, gb⟩
        have R := hide (PowR.mk (w := w) (n := a.length) (a := nv a) (b := b) (k := k + 1) (p := p) (s := vz s.length ((nv s : Int) * nv s)) (A := P) (S := S2) (wr := w2) hlp.out (by rw [vz_length]; exact hls.out)
          (by rw [hst.out, hx]; exact pow_even a.length hRH.out.pw) (by rw [hls.out, nv_vz_mod]; exact pow_sq _ hRH.out.sq) (hRH.out.op.kept gb) g3.rd (hRH.out.bel.trans (gb.mono hRH.out.bel.size)))
        clear g1 g2 g3 gb
        go_wp2
        go_roundw
        case rel => exact ⟨k + 1, _, _, P, S2, cp, cs2, by omega, rfl, HC1.out, HC2.out, rfl, by go_num, R.out⟩
        case measure => simp [intOf]; omega
      · have R := hide (PowR.mk (w := w) (n := a.length) (a := nv a) (b := b) (k := k + 1) (p := p) (s := s) (A := P) (S := S) (wr := wr) hlp.out hls.out
          (by rw [hst.out, hx]; exact pow_even a.length hRH.out.pw) (pow_sq2 _ (by omega) hRH.out.sq) hRH.out.op hRH.out.rs hRH.out.bel)
        go_wp2
        go_roundw
        case rel => exact ⟨k + 1, _, _, P, S, cp, cs, by omega, rfl, HC1.out, HC2.out, rfl, by go_num, R.out⟩
        case measure => simp [intOf]; omega
      · go_wp2_with fail
        refine (mul_any P S p s cp cs wr hp4 hs4 hRH.out.op.rd hRH.out.rs).mono ?_
        rintro e w1 ⟨P2, cp2, rfl, f1, f2, f3, fb⟩
        have F1 := hide f1
        have F2 := hide f2
        have F3 := hide f3
        have FB := hide fb
        have hsr := hide (hRH.out.rs.below fb)
        clear f1 f2 f3 fb
        go_wp2_with fail
        refine (mul_any S S s s cs cs w1 hs4 hs4 hsr.out hsr.out).mono ?_
        rintro e w2 ⟨S2, cs2, rfl, g1, g2, g3, gb⟩
        have R := hide (PowR.mk (w := w) (n := a.length) (a := nv a) (b := b) (k := k + 1) (p := vz p.length ((nv p : Int) * nv s)) (s := vz s.length ((nv s : Int) * nv s)) (A := P2) (S := S2) (wr := w2) (by rw [vz_length]; exact hlp.out) (by rw [vz_length]; exact hls.out)
          (by rw [hst.out, hx, hlp.out, nv_vz_mod]; exact pow_odd a.length hRH.out.pw hRH.out.sq) (by rw [hls.out, nv_vz_mod]; exact pow_sq _ hRH.out.sq) ((F3.out.base hRH.out.bel.size).kept gb) g3.rd ((hRH.out.bel.trans (FB.out.mono hRH.out.bel.size)).trans (gb.mono (Nat.le_trans hRH.out.bel.size FB.out.size))))
        clear g1 g2 g3 gb
        go_wp2
        go_roundw
        case rel => exact ⟨k + 1, _, _, P2, S2, cp2, cs2, by omega, rfl, F1.out, F2.out, rfl, by go_num, R.out⟩
        case measure => simp [intOf]; omega
      · go_wp2_with fail
        refine (mul_any P S p s cp cs wr hp4 hs4 hRH.out.op.rd hRH.out.rs).mono ?_
        rintro e w1 ⟨P2, cp2, rfl, f1, f2, f3, fb⟩
        have F1 := hide f1
        have F2 := hide f2
        have R := hide (PowR.mk (w := w) (n := a.length) (a := nv a) (b := b) (k := k + 1) (p := vz p.length ((nv p : Int) * nv s)) (s := s) (A := P2) (S := S) (wr := w1) (by rw [vz_length]; exact hlp.out) hls.out
          (by rw [hst.out, hx, hlp.out, nv_vz_mod]; exact pow_odd a.length hRH.out.pw hRH.out.sq) (pow_sq2 _ (by omega) hRH.out.sq) (f3.base hRH.out.bel.size) (hRH.out.rs.below fb) (hRH.out.bel.trans (fb.mono hRH.out.bel.size)))
        clear f1 f2 f3 fb
        go_wp2
        go_roundw
        case rel => exact ⟨k + 1, _, _, P2, S, cp2, cs, by omega, rfl, F1.out, F2.out, rfl, by go_num, R.out⟩
        case measure => simp [intOf]; omega
    · go_wp2
      go_ret
      have e : k = b.length := by omega
      subst e
      have e2 : p = vz a.length ((nv a : Int) ^ nv b) := eq_vz hlp.out (by rw [hRH.out.pw, nf_bt (Nat.le_refl _)])
      have h3 := hRH.out.op
      have h1 := HC1.out
      refine ⟨P, cp, ?_, ?_, HC2.out, ?_, hRH.out.bel⟩
      · rw [← e2]; rfl
      · rw [← e2]; exact h1
      · rw [← e2]; exact h3
theorem nf_pos {f : Nat → Bool} {n i : Nat} (hi : i < n) (h : f i = true) : 0 < nf f n := by
  induction n with
  | zero => omega
  | succ n ih =>
    rw [nf_succ]
    by_cases e : i = n
    · subst e; rw [h]
      have : 0 < 2 ^ i := Nat.pow_pos (by decide)
      simp; omega
    · have := ih (by omega); omega
theorem nf_none {f : Nat → Bool} {n : Nat} (h : ∀ i, i < n → f i = false) : nf f n = 0 := by
  induction n with
  | zero => rfl
  | succ n ih => rw [nf_succ, ih fun i hi => h i (by omega), h n (by omega)]; simp
set_option maxHeartbeats 1000000 in
theorem index_any (B : Option Addr) (b : List Bool) (d : Nat) (w : World) (hb : b.length ≤ 4096) (hB : Rd w B b) :
    Calls Tryz.prog 203 #[.slice B b.length d, .bool true] w fun e w' => (∃ i : Int, e = .returned (.int .i64 i) ∧ (0 ≤ i ↔ 0 < nv b)) ∧ w = w' := by
  have HB := hide hB
  clear hB
  show Calls _ _ _ _ (fun e w' => (fun (e : Ending) => ∃ i : Int, e = .returned (.int .i64 i) ∧ (0 ≤ i ↔ 0 < nv b)) e ∧ w = w')
  generalize hP : (fun (e : Ending) => ∃ i : Int, e = .returned (.int .i64 i) ∧ (0 ≤ i ↔ 0 < nv b)) = PP
  have HP := hide hP
  clear hP
  go_enter Tryz.func203, Tryz.ntmps203
  go_wp2
  go_loop [8] (fun i => ∃ k : Nat, k ≤ b.length ∧ i = .int .i64 k ∧ Hid (∀ j, j < k → bt b j = false)) (fun i => b.length - (intOf i).toNat)
  case atStart => exact ⟨0, Nat.zero_le _, rfl, hide fun j hj => by omega⟩
  case round =>
    obtain ⟨k, hk, rfl, hno⟩ := hrel
    by_cases hlt : k < b.length
    · obtain ⟨ad, rfl, hlt1, hc⟩ := HB.out.at_ hlt
      cases hx : bt b k
      · rw [hx] at hc
        have hx' := hide hx
        clear hx
        go_wp2
        go_round
        case rel => exact ⟨k + 1, by omega, by go_num, hide fun j hj => by
          by_cases e : j = k
          · subst e; exact hx'.out
          · exact hno.out j (by omega)⟩
        case measure => simp [intOf]; omega
      · rw [hx] at hc
        have hx' := hide hx
        clear hx
        go_wp2
        go_ret
        refine ⟨?_, rfl⟩
        rw [← HP.out]
        exact ⟨k, rfl, by have := nf_pos hlt hx'.out; constructor <;> intro _ <;> first | exact this | omega⟩
    · go_wp2
      go_ret
      refine ⟨?_, rfl⟩
      rw [← HP.out]
      refine ⟨-1, rfl, ?_⟩
      have : nv b = 0 := nf_none fun i hi => hno.out i (by omega)
      constructor <;> intro _ <;> omega
theorem has_any (B : Option Addr) (b : List Bool) (d : Nat) (w : World) (hb : b.length ≤ 4096) (hB : Rd w B b) :
    Calls Tryz.prog 199 #[.slice B b.length d, .bool true] w fun e w' => e = .returned (.bool (decide (0 < nv b))) ∧ w = w' := by
  go_enter Tryz.func199, Tryz.ntmps199
  go_wp2_with fail
  refine (index_any _ _ _ _ hb hB).mono ?_
  rintro e w' ⟨⟨i, rfl, hi⟩, rfl⟩
  have HI := hide hi
  clear hi
  go_wp2
  go_ret
  exact ⟨ret_bool (by rw [decide_eq_decide]; exact HI.out), rfl⟩
end
section
open Go.RowKit
set_option maxRecDepth 100000
set_option linter.unusedSimpArgs false
set_option linter.unusedVariables false
def Zer (n : Nat) : Obj := .cells (madeCells #[.bool false] n) 4
theorem run_mk (n : Nat) (hn : n ≤ 4096) (w : World) : (Instr.makeSlice 82 (.int .i64 (n : Int)) (.int .i64 (n : Int))).run Tryz.prog w = .ok (.slice (some ⟨w.heap.size, 0, none⟩) n n) (w.alloc (Zer n)) := by
  obtain ⟨i0, hi, hz0, hz1, hz2⟩ := info_parts bool_info
  have h := run_make (P := Tryz.prog) w 82 4 i0 (.bool false) Tryz.underlying82 hi hz0 .i64 .i64 n n (by omega) (by omega) (by rw [hz2]; omega) (by omega)
  rw [h, hz1]
  simp [Zer, Value.cells]
theorem zer_row (w : World) (n : Nat) : RowF (w.alloc (Zer n)) w.heap.size n (fun _ => false) := by
  refine ⟨_, heap_alloc_new w _, fun i hi => ?_⟩
  rw [← Array.getElem?_toList, toList_madeCells_one]
  simp [hi]
def Div0 (w : World) (n : Nat) (q r : Value) (wc : World) : Prop :=
  ∃ g h, q = .slice (some ⟨g, 0, none⟩) n n ∧ r = .slice (some ⟨h, 0, none⟩) n n ∧ w.heap.size ≤ g ∧ w.heap.size ≤ h ∧ RowF wc g n (fun _ => false) ∧ RowF wc h n (fun _ => false) ∧ Below w.heap.size w wc
theorem div0_a (w : World) (n : Nat) : Div0 w n (.slice (some ⟨w.heap.size, 0, none⟩) n n) (.slice (some ⟨w.heap.size + 1, 0, none⟩) n n) (((w.alloc (Zer n)).alloc (Zer n)).drew) := by
  have h := zer_row (w.alloc (Zer n)) n
  rw [show (w.alloc (Zer n)).heap.size = w.heap.size + 1 by simp] at h
  exact ⟨_, _, rfl, rfl, Nat.le_refl _, by omega, (zer_row w n).alloc _, h, (((Below.refl _ _).alloc (Nat.le_refl _) _).alloc (by simp) _).drew⟩
theorem div0_b (w : World) (n : Nat) : Div0 w n (.slice (some ⟨w.heap.size + 1, 0, none⟩) n n) (.slice (some ⟨w.heap.size, 0, none⟩) n n) (((w.alloc (Zer n)).alloc (Zer n)).drew) := by
  obtain ⟨g, h, e1, e2, h1, h2, h3, h4, h5⟩ := div0_a w n
  exact ⟨h, g, e2, e1, h2, h1, h4, h3, h5⟩
theorem top_step (a : List Bool) (k : Nat) (hk : k < a.length) : (nv a / 2 ^ (a.length - (k + 1)) : Nat) = 2 * (nv a / 2 ^ (a.length - k)) + (bt a (a.length - 1 - k)).toNat := by
  obtain ⟨m, hm⟩ : ∃ m, a.length = m + (k + 1) := ⟨a.length - (k + 1), by omega⟩
  have e1 : a.length - (k + 1) = m := by omega
  have e2 : a.length - k = m + 1 := by omega
  have e3 : a.length - 1 - k = m := by omega
  rw [e1, e2, e3]
  have h := zb_nv a m
  unfold zb at h
  have p : ((nv a / 2 ^ m : Nat) : Int) = (nv a : Int) / 2 ^ m := by simp
  rw [← p] at h
  rw [Nat.pow_succ, ← Nat.div_div_eq_div_mul]
  generalize nv a / 2 ^ m = x at *
  cases hb : bt a m
  · rw [hb] at h
    have := of_decide_eq_false h
    simp; omega
  · rw [hb] at h
    have := of_decide_eq_true h
    simp; omega
theorem top_lt (a : List Bool) (k : Nat) (hk : k ≤ a.length) : nv a / 2 ^ (a.length - k) < 2 ^ k := by
  have h := nv_lt a
  rw [Nat.div_lt_iff_lt_mul (Nat.pow_pos (by decide)), ← Nat.pow_add, show k + (a.length - k) = a.length by omega]
  exact h
theorem quo_bit (Q : Int) (m j : Nat) (b : Bool) : zb ((2 * Q + b.toNat) * 2 ^ m) j = if j = m then b else zb (Q * 2 ^ (m + 1)) j := by
  rw [zb_mul, zb_mul]
  by_cases h : j = m
  · subst h
    rw [if_neg (by omega), if_pos rfl, Nat.sub_self]
    unfold zb
    rw [Int.pow_zero, Int.ediv_one]
    cases b
    · apply decide_eq_false; simp
    · apply decide_eq_true; simp
  · rw [if_neg h]
    by_cases h1 : j < m
    · rw [if_pos h1, if_pos (by omega)]
    · rw [if_neg h1, if_neg (by omega)]
      obtain ⟨i, rfl⟩ : ∃ i, j = m + (i + 1) := ⟨j - m - 1, by omega⟩
      rw [show m + (i + 1) - m = i + 1 by omega, show m + (i + 1) - (m + 1) = i by omega, ← zb_div _ 1 i]
      congr 1
      rw [Int.pow_one]
      cases b <;> simp <;> omega
structure DivR (w : World) (a : List Bool) (D g k : Nat) (r : List Bool) (H : Option Addr) (wr : World) : Prop where
  lr : r.length = a.length
  rem : nv r = nv a / 2 ^ (a.length - k) % D
  row : RowF wr g a.length (zb (((nv a / 2 ^ (a.length - k) / D : Nat) : Int) * 2 ^ (a.length - k)))
  own : Own w.heap.size wr H r
  bel : Below w.heap.size w wr
theorem div_yes {X D b : Nat} (hD : 0 < D) (hb : b ≤ 1) (h : D ≤ 2 * (X % D) + b) : (2 * X + b) % D = 2 * (X % D) + b - D ∧ (2 * X + b) / D = 2 * (X / D) + 1 := by
  have d := Nat.mod_add_div X D
  have lt := Nat.mod_lt X hD
  generalize X % D = r at *
  generalize X / D = q at *
  have e : 2 * X + b = (2 * r + b - D) + D * (2 * q + 1) := by
    rw [← d, Nat.mul_add D, Nat.mul_one, Nat.mul_add 2]
    have : 2 * (D * q) = D * (2 * q) := by rw [← Nat.mul_assoc, Nat.mul_comm 2 D, Nat.mul_assoc]
    omega
  rw [e]
  constructor
  · rw [Nat.add_mul_mod_self_left, Nat.mod_eq_of_lt (by omega)]
  · rw [Nat.add_mul_div_left _ _ hD, Nat.div_eq_of_lt (by omega)]; omega
theorem div_no {X D b : Nat} (hD : 0 < D) (h : 2 * (X % D) + b < D) : (2 * X + b) % D = 2 * (X % D) + b ∧ (2 * X + b) / D = 2 * (X / D) := by
  have d := Nat.mod_add_div X D
  generalize X % D = r at *
  generalize X / D = q at *
  have e : 2 * X + b = (2 * r + b) + D * (2 * q) := by
    rw [← d, Nat.mul_add 2]
    have : 2 * (D * q) = D * (2 * q) := by rw [← Nat.mul_assoc, Nat.mul_comm 2 D, Nat.mul_assoc]
    omega
  rw [e]
  constructor
  · rw [Nat.add_mul_mod_self_left, Nat.mod_eq_of_lt h]
  · rw [Nat.add_mul_div_left _ _ hD, Nat.div_eq_of_lt h]; omega
theorem rem_next {a r r1 r2 : List Bool} {D k m : Nat} (hk : a.length = m + (k + 1)) (hl : r.length = a.length) (hr : nv r = nv a / 2 ^ (a.length - k) % D) (hr1 : r1 = vz r.length ((nv r : Int) * 2 ^ (1 : Int).toNat))
    (hr2 : r2 = bl r1.length (fun j => if j = 0 then bt a m else bt r1 j)) : r2.length = a.length ∧ nv r2 = 2 * (nv a / 2 ^ (a.length - k) % D) + (bt a m).toNat := by
  have hl1 : r1.length = a.length := by rw [hr1, vz_length, hl]
  have hl2 : r2.length = a.length := by rw [hr2, bl_length, hl1]
  refine ⟨hl2, ?_⟩
  have e : r2 = vz a.length (((2 * nv r + (bt a m).toNat : Nat) : Int)) := by
    rw [hr2, hl1]
    refine bl_congr fun j hj => ?_
    have q := quo_bit (nv r) 0 j (bt a m)
    rw [Int.pow_zero, Int.mul_one] at q
    have e2 : ((2 * nv r + (bt a m).toNat : Nat) : Int) = 2 * (nv r : Int) + (bt a m).toNat := by simp
    rw [e2, q]
    by_cases h0 : j = 0
    · rw [if_pos h0, if_pos h0]
    · rw [if_neg h0, if_neg h0, hr1, hl]
      show bt (bl _ _) j = _
      rw [bt_bl_lt hj]
      rfl
  have hx := top_lt a k (by omega)
  have hm := Nat.mod_le (nv a / 2 ^ (a.length - k)) D
  have hp : 2 ^ (k + 1) ≤ 2 ^ a.length := Nat.pow_le_pow_right (by decide) (by omega)
  rw [Nat.pow_succ] at hp
  rw [e, nv_vz_nat (by rcases toNat_01 (bt a m) with h | h <;> omega), hr]
def MkD (q r : List Bool) (w : World) (e : Ending) (w' : World) : Prop :=
  ∃ A c B d, e = .returned (.tuple #[.slice A q.length c, .slice B r.length d, .int .i64 0]) ∧ q.length ≤ c ∧ c ≤ maxLen ∧ r.length ≤ d ∧ d ≤ maxLen ∧ Own w.heap.size w' A q ∧ Own w.heap.size w' B r ∧ Below w.heap.size w w'
theorem div_zero (A B : Option Addr) (a b : List Bool) (c d : Nat) (w : World) (ha : a.length ≤ 4096) (hb : b.length ≤ 4096) (hB : Rd w B b) (h0 : nv b = 0) :
    Calls Tryz.prog 178 #[.slice A a.length c, .slice B b.length d] w fun e w' => e = .returned (.tuple #[.slice none 0 0, .slice none 0 0, .int .i64 7]) ∧ w = w' := by
  have hd : Hid (∀ w', Rd w' B b → Calls Tryz.prog 199 #[.slice B b.length d, .bool true] w' fun e w2 => e = .returned (.bool false) ∧ w' = w2) := hide (fun w' h => by
    have := has_any B b d w' hb h
    rw [show decide (0 < nv b) = false by simp [h0]] at this
    exact this)
  clear h0
  go_enter Tryz.func178, Tryz.ntmps178
  go_wp2_with (go_at_call 199; (with_reducible refine (hd.out _ hB).mono ?_); rintro e w' ⟨rfl, rfl⟩)
  go_ret3
  exact ⟨rfl, rfl⟩
set_option maxHeartbeats 2000000 in
theorem div_any (A B : Option Addr) (a b : List Bool) (c d : Nat) (w : World) (ha : a.length ≤ 4096) (hb : b.length ≤ 4096) (hA : Rd w A a) (hB : Rd w B b) (h0 : 0 < nv b) :
    Calls Tryz.prog 178 #[.slice A a.length c, .slice B b.length d] w (MkD (vz a.length ((nv a / nv b : Nat) : Int)) (vz a.length ((nv a % nv b : Nat) : Int)) w) := by
  have hd : Hid (∀ w', Rd w' B b → Calls Tryz.prog 199 #[.slice B b.length d, .bool true] w' fun e w2 => e = .returned (.bool true) ∧ w' = w2) := hide (fun w' h => by
    have := has_any B b d w' hb h
    rw [show decide (0 < nv b) = true by simp [h0]] at this
    exact this)
  have HA := hide hA
  have HB := hide hB
  have H0 := hide h0
  clear hA hB h0
  have hmk := run_mk a.length ha
  go_enter Tryz.func178, Tryz.ntmps178
  go_upto_region 3 with (go_at_call 199; (with_reducible refine (hd.out _ HB.out).mono ?_); rintro e w' ⟨rfl, rfl⟩)
  go_cut [4, 5] (Div0 w a.length)
  case first =>
    refine region_anyT (S := fun w1 => True) (n := 7) kr trivial (fun hS inv => ?_)
    refine anyT_take (i := 0) (oi := _) (v := .slice A a.length c) rfl kr kr kr (by decide) (by decide) kr kr inv (fun _ _ _ h => h) (Or.inl ⟨kr, ?_⟩) hS (fun inv => ?_)
    · intro wz hSw
      go_simp
    (try simp only [Act.put, q5, q6, q7])
    refine anyT_take (i := 1) (oi := _) (v := .int .i64 a.length) rfl kr kr kr (by decide) (by decide) kr kr inv (fun _ _ _ h => h) (Or.inl ⟨kr, ?_⟩) hS (fun inv => ?_)
    · intro wz hSw
      go_simp
    (try simp only [Act.put, q5, q6, q7])
    refine anyT_take (i := 3) (oi := _) (v := .slice A a.length c) rfl kr kr kr (by decide) (by decide) kr kr inv (fun _ _ _ h => h) (Or.inl ⟨kr, ?_⟩) hS (fun inv => ?_)
    · intro wz hSw
      go_simp
    (try simp only [Act.put, q5, q6, q7])
    refine anyT_take (i := 4) (oi := _) (v := .int .i64 a.length) rfl kr kr kr (by decide) (by decide) kr kr inv (fun _ _ _ h => h) (Or.inl ⟨kr, ?_⟩) hS (fun inv => ?_)
    · intro wz hSw
      go_simp
    (try simp only [Act.put, q5, q6, q7])
    have hmk := run_mk a.length ha
    refine anyT_ready (rs := [2, 5]) kr (by simp) ?_
    refine ReadyT.head (o := _) rfl (by decide) kr inv (fun K hK => ?_) ?_
    · go_simp
      refine hK.out _ _ trivial (fun hS inv => ?_)
      clear hK K
      (try simp only [Act.put, q5, q6, q7])
      refine anyT_take (i := 6) (oi := _) (v := .slice (some ⟨w.heap.size, 0, none⟩) a.length a.length) rfl kr kr kr (by decide) (by decide) kr kr inv (fun _ _ _ h => h) (Or.inl ⟨kr, ?_⟩) hS (fun inv => ?_)
      · intro wz hSw
        go_simp
      (try simp only [Act.put, q5, q6, q7])
      refine anyT_ready (rs := [5]) kr (by simp) ?_
      refine ReadyT.head (o := _) rfl (by decide) kr inv (fun K hK => ?_) ReadyT.nil
      go_simp
      refine hK.out _ _ trivial (fun hS inv => ?_)
      clear hK K
      (try simp only [Act.put, q5, q6, q7])
      refine anyT_ready (rs := [7]) kr (by simp) ?_
      refine ReadyT.tail (o := _) rfl (by decide) (fun K hK => ?_)
      go_simp
      refine hK.out _ _ ?_
      clear hK K
      (try simp only [Act.put, q5, q6, q7])
      refine anyT_done kr ?_ _
      go_wp2_with fail
      go_meet
      exact div0_a w a.length
    · refine ReadyT.head (o := _) rfl (by decide) kr inv (fun K hK => ?_) ReadyT.nil
      go_simp
      refine hK.out _ _ trivial (fun hS inv => ?_)
      clear hK K
      (try simp only [Act.put, q5, q6, q7])
      refine anyT_ready (rs := [2]) kr (by simp) ?_
      refine ReadyT.head (o := _) rfl (by decide) kr inv (fun K hK => ?_) ReadyT.nil
      go_simp
      refine hK.out _ _ trivial (fun hS inv => ?_)
      clear hK K
      (try simp only [Act.put, q5, q6, q7])
      refine anyT_take (i := 6) (oi := _) (v := .slice (some ⟨w.heap.size + 1, 0, none⟩) a.length a.length) rfl kr kr kr (by decide) (by decide) kr kr inv (fun _ _ _ h => h) (Or.inl ⟨kr, ?_⟩) hS (fun inv => ?_)
      · intro wz hSw
        go_simp
      (try simp only [Act.put, q5, q6, q7])
      refine anyT_ready (rs := [7]) kr (by simp) ?_
      refine ReadyT.tail (o := _) rfl (by decide) (fun K hK => ?_)
      go_simp
      refine hK.out _ _ ?_
      clear hK K
      (try simp only [Act.put, q5, q6, q7])
      refine anyT_done kr ?_ _
      go_wp2_with fail
      go_meet
      exact div0_b w a.length
  case rest =>
    obtain ⟨g, h, rfl, rfl, hg, hh, hr1, hr2, hb1⟩ := hcut
    have HR1 := hide hr1
    have HR2 := hide hr2
    clear hr1 hr2 hmk
    go_wp2
    go_loopw [5, 20] (fun y i wr => ∃ (k : Nat) (r : List Bool) (H : Option Addr) (ch : Nat), k ≤ a.length ∧ y = .slice H r.length ch ∧ Hid (r.length ≤ ch ∧ ch ≤ maxLen) ∧ i = .int .i64 k ∧ DivR w a (nv b) g k r H wr) (fun _ i _ => a.length - (intOf i).toNat)
    case atStart =>
      have hl : (bl a.length fun _ => false).length = a.length := bl_length _ _
      refine ⟨0, bl a.length fun _ => false, some ⟨h, 0, none⟩, a.length, Nat.zero_le _, by rw [hl], hide ⟨by rw [hl]; exact Nat.le_refl _, max_4096 ha⟩, rfl, ?_⟩
      have e0 : nv a / 2 ^ (a.length - 0) = 0 := by
        rw [Nat.sub_zero]; exact Nat.div_eq_of_lt (nv_lt a)
      refine ⟨hl, ?_, ?_, ?_, hb1⟩
      · rw [e0, nv_bl, nf_none fun _ _ => rfl]; simp
      · rw [e0]; simp; exact HR1.out.congr fun i _ => (zb_zero i).symm
      · exact Own.of_row (by rw [hl]; exact HR2.out.congr fun i hi => (bt_bl_lt (f := fun _ => false) hi).symm) hh
    case round =>
      obtain ⟨k, r, H, ch, hk, rfl, hch, rfl, hR⟩ := hrel
      have hRH := hide hR
      clear hR hb1
      have hlr := hide hRH.out.lr
      have hr4 : r.length ≤ 4096 := by have := hlr.out; omega
      by_cases hlt : k < a.length
      · obtain ⟨m, hm⟩ : ∃ m, a.length = m + (k + 1) := ⟨a.length - (k + 1), by omega⟩
        have hma : m < a.length := by omega
        have hmx : (a.length : Int) - 1 - (k : Int) = m := by omega
        have HM := hide hm
        clear hm
        obtain ⟨ad, rfl, hlt1, hc0⟩ := HA.out.at_ hma
        have hgw : g < wr.heap.size := hRH.out.row.lt
        go_wp2_with fail
        refine (shl_any H r ch 1 wr hr4 hRH.out.own.rd).mono ?_
        rintro e w1 ⟨G, c1, rfl, f1, f2, f3, fb⟩
        obtain ⟨r1, hr1⟩ : ∃ r1, r1 = vz r.length ((nv r : Int) * 2 ^ (1 : Int).toNat) := ⟨_, rfl⟩
        rw [← hr1] at f1 f3 ⊢
        have hl1 : r1.length = a.length := by rw [hr1, vz_length, hlr.out]
        have hp1 : 0 < r1.length := by omega
        have hp4 : r1.length ≤ 4096 := by omega
        obtain ⟨g1, rfl, hg1, hrow1⟩ := f3 hp1
        have hc : w1.cell? (ad.add m) = some (.bool (bt a m)) := ((hRH.out.bel.trans (fb.mono hRH.out.bel.size)).cell (p := ad.add m) (by rw [block_of_add]; exact hlt1)).trans hc0
        have hcr := hrow1.cell hp1
        have hfr := hrow1.free 0
        obtain ⟨r2, hr2⟩ : ∃ r2, r2 = bl r1.length (fun j => if j = 0 then bt a m else bt r1 j) := ⟨_, rfl⟩
        obtain ⟨hl2, hv2⟩ := rem_next HM.out hlr.out hRH.out.rem hr1 hr2
        have hl21 : r2.length = r1.length := by rw [hl2, hl1]
        have hrow2 : RowF (w1.setCell ⟨g1, 0, none⟩ (.bool (bt a m))) g1 r2.length (bt r2) := by rw [hl21]; exact (hrow1.set_ 0 (bt a m)).congr fun i hi => by rw [hr2, bt_bl_lt hi]
        have hb2 : Below w.heap.size w (w1.setCell ⟨g1, 0, none⟩ (.bool (bt a m))) := (hRH.out.bel.trans (fb.mono hRH.out.bel.size)).setCell (by have := hRH.out.bel.size; simp; omega) _
        have hRd2 := hide (HB.out.below hb2)
        have hcmp := cmp_any (some ⟨g1, 0, none⟩) B r2 b c1 d (w1.setCell ⟨g1, 0, none⟩ (.bool (bt a m))) (by omega) hb (Own.rd (B := 0) fun _ => ⟨g1, rfl, Nat.zero_le _, hrow2⟩) hRd2.out
        have hsub := sub_any (some ⟨g1, 0, none⟩) B r2 b c1 d (w1.setCell ⟨g1, 0, none⟩ (.bool (bt a m))) (by omega) hb (Own.rd (B := 0) fun _ => ⟨g1, rfl, Nat.zero_le _, hrow2⟩) hRd2.out
        rw [hl21] at hcmp hsub
        have HS := hide hsub
        have HROW2 := hide hrow2
        have HB2 := hide hb2
        have HL2 := hide hl2
        have HL21 := hide hl21
        have HL1 := hide hl1
        have HV2 := hide hv2
        have F1 := hide f1
        have F2 := hide f2
        have FB := hide fb
        have HT := hide (top_step a k hlt)
        have hgr : RowF (w1.setCell ⟨g1, 0, none⟩ (.bool (bt a m))) g a.length (zb (((nv a / 2 ^ (a.length - k) / nv b : Nat) : Int) * 2 ^ (a.length - k))) := (hRH.out.row.kept fb).far (by simp; omega) _
        have HGR := hide hgr
        have hmk : a.length - 1 - k = m := by have := HM.out; omega
        have hmk1 : a.length - (k + 1) = m := by have := HM.out; omega
        have hmk2 : a.length - k = m + 1 := by have := HM.out; omega
        have HMK := hide hmk
        have HMK1 := hide hmk1
        have HMK2 := hide hmk2
        have HR1 := hide hr1
        have HR2 := hide hr2
        clear hr1 hr2 hl1 hl2 hl21 hv2 hsub hrow2 hb2 f1 f2 f3 fb hrow1 hgr hmk hmk1 hmk2 hc0 hRd2
        by_cases hge : nv b ≤ nv r2
        · obtain ⟨z, hz⟩ : ∃ z, z = cmp (nv r2) (nv b) := ⟨_, rfl⟩
          rw [← hz] at hcmp
          have hz0 : 0 ≤ z := by rw [hz]; exact cmp_nn.2 (by omega)
          have HC := hide hcmp
          have HGE := hide hge
          clear hz hcmp hge
          go_wp2_with fail
          refine (HC.out).mono ?_
          rintro e w' ⟨rfl, rfl⟩
          go_wp2_with fail
          refine (HS.out).mono ?_
          rintro e w3 ⟨G3, c3, rfl, t1, t2, t3, tb⟩
          have T1 := hide t1
          have T2 := hide t2
          have T3 := hide t3
          have TB := hide tb
          have hrow3 := HGR.out.kept tb
          have hcq := hrow3.cell hma
          have hfq := hrow3.free m
          have HROW3 := hide hrow3
          clear t1 t2 t3 tb hrow3 HC
          go_wp2
          go_roundw
          case rel =>
            have hD := H0.out
            have dy := div_yes (X := nv a / 2 ^ (a.length - k)) (b := (bt a m).toNat) hD (by rcases toNat_01 (bt a m) with h | h <;> omega) (by rw [← HV2.out]; exact HGE.out)
            have hT := HT.out
            rw [HMK.out] at hT
            have hnv : nv (vz r1.length ((nv r2 : Int) - nv b)) = nv r2 - nv b := by
              have e : ((nv r2 : Int) - nv b) = ((nv r2 - nv b : Nat) : Int) := by have := HGE.out; omega
              rw [e]
              refine nv_vz_nat ?_
              have := nv_lt r2
              rw [HL21.out] at this
              omega
            have hml : Below w3.heap.size w3 w3 := Below.refl _ _
            have hsz := TB.out.size
            have hg3 : g < w3.heap.size := HROW3.out.lt
            have hgB : w.heap.size ≤ g := hg
            refine ⟨k + 1, vz r1.length ((nv r2 : Int) - nv b), G3, c3, by omega, rfl, hide ⟨T1.out, T2.out⟩, by go_num, ?_⟩
            refine ⟨by rw [vz_length]; exact HL1.out, ?_, ?_, ?_, ?_⟩
            · rw [hnv, HV2.out, hT, dy.1]
            · refine (HROW3.out.set_ m true).congr fun j hj => ?_
              rw [hT, dy.2, HMK1.out, HMK2.out]
              have q := quo_bit ((nv a / 2 ^ (m + 1) / nv b : Nat) : Int) m j true
              have e : ((2 * (nv a / 2 ^ (m + 1) / nv b) + 1 : Nat) : Int) = 2 * ((nv a / 2 ^ (m + 1) / nv b : Nat) : Int) + (true.toNat : Nat) := by simp
              rw [e, q]
            · intro hn
              obtain ⟨g3, e, hB3, hr3⟩ := T3.out hn
              have hB3' : w1.heap.size ≤ g3 := by simpa using hB3
              have := FB.out.size
              have := hRH.out.bel.size
              exact ⟨g3, e, by omega, hr3.far (by simp; omega) _⟩
            · exact (HB2.out.trans (TB.out.mono HB2.out.size)).setCell (by simpa using hgB) _
          case measure => simp [intOf]; omega
        · obtain ⟨z, hz⟩ : ∃ z, z = cmp (nv r2) (nv b) := ⟨_, rfl⟩
          rw [← hz] at hcmp
          have hz0 : z < 0 := by rw [hz]; exact cmp_lt.2 (by omega)
          have HC := hide hcmp
          have HGE := hide hge
          clear hz hcmp hge
          go_wp2_with fail
          refine (HC.out).mono ?_
          rintro e w' ⟨rfl, rfl⟩
          go_wp2
          go_roundw
          case rel =>
            have hD := H0.out
            have dn := div_no (X := nv a / 2 ^ (a.length - k)) (b := (bt a m).toNat) hD (by rw [← HV2.out]; have := HGE.out; omega)
            have hT := HT.out
            rw [HMK.out] at hT
            have := FB.out.size
            have := hRH.out.bel.size
            refine ⟨k + 1, r2, some ⟨g1, 0, none⟩, c1, by omega, by rw [HL21.out], hide ⟨by rw [HL21.out]; exact F1.out, F2.out⟩, by go_num, ?_⟩
            refine ⟨HL2.out, ?_, ?_, ?_, HB2.out⟩
            · rw [HV2.out, hT, dn.1]
            · rw [hT, dn.2, HMK1.out]
              have h := HGR.out
              rw [HMK2.out] at h ⊢
              refine h.congr fun j hj => ?_
              rw [Int.pow_succ, ← Int.mul_assoc]
              congr 1
              simp
              grind
            · exact fun _ => ⟨g1, rfl, by omega, HROW2.out⟩
          case measure => simp [intOf]; omega
      · have e : k = a.length := by omega
        subst e
        have hre : r = vz a.length ((nv a % nv b : Nat) : Int) := by
          have h1 := hRH.out.rem
          rw [Nat.sub_self, Nat.pow_zero, Nat.div_one] at h1
          exact eq_vz hlr.out (by rw [h1])
        have hrow := hRH.out.row
        rw [Nat.sub_self, Nat.pow_zero, Nat.div_one, Int.pow_zero, Int.mul_one] at hrow
        have HRow := hide hrow
        have HRe := hide hre
        clear hrow hre
        go_wp2
        go_ret3
        have hl := vz_length a.length ((nv a / nv b : Nat) : Int)
        refine ⟨some ⟨g, 0, none⟩, a.length, H, ch, ?_, ?_, max_4096 ha, ?_, hch.out.2, ?_, ?_, hRH.out.bel⟩
        · rw [hl, ← HRe.out]; rfl
        · rw [hl]; exact Nat.le_refl _
        · rw [← HRe.out]; exact hch.out.1
        · exact fun _ => ⟨g, rfl, hg, by rw [hl]; exact HRow.out.congr fun i hi => (bt_bl_lt hi).symm⟩
        · rw [← HRe.out]; exact hRH.out.own
end
section
open Go.RowKit
set_option maxRecDepth 100000
set_option linter.unusedSimpArgs false
set_option linter.unusedVariables false
theorem mg_zero (b : List Bool) : mg b = 0 ↔ nv b = 0 := by
  have h := nv_lt b
  have k := two_cast b.length
  unfold mg sv
  split
  · rename_i hn
    have := (ng_iff b).1 hn
    have h2 : 0 < 2 ^ (b.length - 1) := Nat.pow_pos (by decide)
    omega
  · omega
theorem sv_mg (a : List Bool) : sv a = if ng a then -(mg a : Int) else mg a := by
  cases h : ng a
  · have := sv_nn h; unfold mg; simp; omega
  · have := sv_neg h; unfold mg; simp; omega
theorem sdiv_pp {a b : List Bool} (h : ng a = false) (k : ng b = false) : ((mg a / mg b : Nat) : Int) = (sv a).tdiv (sv b) ∧ ((mg a % mg b : Nat) : Int) = (sv a).tmod (sv b) := by
  rw [sv_mg a, sv_mg b, h, k]
  have e : (↑(mg a) : Int).tmod ↑(mg b) = ↑(mg a) % ↑(mg b) := Int.tmod_eq_emod_of_nonneg (by omega)
  simp [e]
theorem sdiv_pn {a b : List Bool} (h : ng a = false) (k : ng b = true) : -((mg a / mg b : Nat) : Int) = (sv a).tdiv (sv b) ∧ ((mg a % mg b : Nat) : Int) = (sv a).tmod (sv b) := by
  rw [sv_mg a, sv_mg b, h, k]
  have e : (↑(mg a) : Int).tmod ↑(mg b) = ↑(mg a) % ↑(mg b) := Int.tmod_eq_emod_of_nonneg (by omega)
  simp [e]
theorem sdiv_np {a b : List Bool} (h : ng a = true) (k : ng b = false) : -((mg a / mg b : Nat) : Int) = (sv a).tdiv (sv b) ∧ -((mg a % mg b : Nat) : Int) = (sv a).tmod (sv b) := by
  rw [sv_mg a, sv_mg b, h, k]
  have e : (↑(mg a) : Int).tmod ↑(mg b) = ↑(mg a) % ↑(mg b) := Int.tmod_eq_emod_of_nonneg (by omega)
  simp [e]
theorem sdiv_nn {a b : List Bool} (h : ng a = true) (k : ng b = true) : ((mg a / mg b : Nat) : Int) = (sv a).tdiv (sv b) ∧ -((mg a % mg b : Nat) : Int) = (sv a).tmod (sv b) := by
  rw [sv_mg a, sv_mg b, h, k]
  have e : (↑(mg a) : Int).tmod ↑(mg b) = ↑(mg a) % ↑(mg b) := Int.tmod_eq_emod_of_nonneg (by omega)
  simp [e]
theorem mag_list (a : List Bool) : ∃ m, m = vz a.length (mg a) ∧ m.length = a.length ∧ nv m = mg a := ⟨_, rfl, vz_length _ _, nv_vz_nat (mg_lt' a)⟩
theorem MkD.mk2 {q r q' r' : List Bool} {w w' : World} {A B : Option Addr} {c d : Nat} (hA : Own w.heap.size w' A q) (hB : Own w.heap.size w' B r) (h1 : q.length ≤ c) (h2 : c ≤ maxLen) (h3 : r.length ≤ d) (h4 : d ≤ maxLen) (hb : Below w.heap.size w w') (eq : q = q') (er : r = r') :
    MkD q' r' w (.returned (.tuple #[.slice A q.length c, .slice B r.length d, .int .i64 0])) w' := by
  subst eq; subst er
  exact ⟨A, c, B, d, rfl, h1, h2, h3, h4, hA, hB, hb⟩
theorem sdiv_zero (A B : Option Addr) (a b : List Bool) (c d : Nat) (w : World) (ha : a.length ≤ 4096) (hb : b.length ≤ 4096) (hA : Rd w A a) (hB : Rd w B b) (h0 : nv b = 0) :
    Calls Tryz.prog 177 #[.slice A a.length c, .slice B b.length d] w fun e w' => e = .returned (.tuple #[.slice none 0 0, .slice none 0 0, .int .i64 7]) ∧ Below w.heap.size w w' := by
  have HA := hide hA
  have HB := hide hB
  have H0 := hide h0
  clear hA hB h0
  go_enter Tryz.func177, Tryz.ntmps177
  go_wp2_with fail
  refine (mag_any A a c w ha HA.out).mono ?_
  rintro e w1 ⟨A2, c2, rfl, hr1, hb1⟩
  obtain ⟨ma, ea, la, va⟩ := mag_list a
  rw [← ea] at hr1 ⊢
  have R1 := hide hr1
  have HB2 := hide (HB.out.below hb1)
  have LA := hide la
  have B1 := hide hb1
  have hma : ma.length ≤ 4096 := by omega
  clear ea la va hr1 hb1
  go_wp2_with fail
  refine (mag_any B b d w1 hb HB2.out).mono ?_
  rintro e w2 ⟨A3, c3, rfl, hr2, hb2⟩
  obtain ⟨mb, eb, lb, vb⟩ := mag_list b
  rw [← eb] at hr2 ⊢
  have hmb : mb.length ≤ 4096 := by omega
  have hz := hide (div_zero A2 A3 ma mb c2 c3 w2 hma hmb hr2 (by rw [vb]; exact (mg_zero b).2 H0.out))
  have B2 := hide hb2
  clear eb lb vb hr2 hb2
  go_wp2_with fail
  refine (hz.out).mono ?_
  rintro e w' ⟨rfl, rfl⟩
  go_wp2
  go_ret3
  exact ⟨rfl, B1.out.trans (B2.out.mono B1.out.size)⟩
set_option maxHeartbeats 1000000 in
theorem sdiv_any (A B : Option Addr) (a b : List Bool) (c d : Nat) (w : World) (ha : a.length ≤ 4096) (hb : b.length ≤ 4096) (hA : Rd w A a) (hB : Rd w B b) (h0 : 0 < nv b) :
    Calls Tryz.prog 177 #[.slice A a.length c, .slice B b.length d] w (MkD (vz a.length ((sv a).tdiv (sv b))) (vz a.length ((sv a).tmod (sv b))) w) := by
  have HA := hide hA
  have HB := hide hB
  have H0 := hide h0
  clear hA hB h0
  go_enter Tryz.func177, Tryz.ntmps177
  go_wp2_with fail
  refine (mag_any A a c w ha HA.out).mono ?_
  rintro e w1 ⟨A2, c2, rfl, hr1, hb1⟩
  obtain ⟨ma, ea, la, va⟩ := mag_list a
  rw [← ea] at hr1 ⊢
  have R1 := hide hr1
  have HB2 := hide (HB.out.below hb1)
  have LA := hide la
  have VA := hide va
  have B1 := hide hb1
  have hma : ma.length ≤ 4096 := by omega
  clear ea la va hr1 hb1
  go_wp2_with fail
  refine (mag_any B b d w1 hb HB2.out).mono ?_
  rintro e w2 ⟨A3, c3, rfl, hr2, hb2⟩
  obtain ⟨mb, eb, lb, vb⟩ := mag_list b
  rw [← eb] at hr2 ⊢
  have hmb : mb.length ≤ 4096 := by omega
  have hz := hide (div_any A2 A3 ma mb c2 c3 w2 hma hmb (R1.out.below hb2) hr2 (by rw [vb]; exact Nat.pos_of_ne_zero fun h => by have := (mg_zero b).1 h; have := H0.out; omega))
  have VB := hide vb
  have hW2 := hide (B1.out.trans (hb2.mono B1.out.size))
  clear eb lb vb hr2 hb2
  go_wp2_with fail
  refine (hz.out).mono ?_
  rintro e w3 ⟨Q, cq, R, cr, rfl, q1, q2, r1, r2, qo, ro, hb3⟩
  obtain ⟨q, eq, lq, vq⟩ : ∃ q, q = vz ma.length ((nv ma / nv mb : Nat) : Int) ∧ q.length = a.length ∧ nv q = mg a / mg b := ⟨_, rfl, by rw [vz_length]; exact LA.out, by
    rw [nv_vz_nat, VA.out, VB.out]
    rw [LA.out, VA.out]
    exact Nat.lt_of_le_of_lt (Nat.div_le_self _ _) (mg_lt' a)⟩
  obtain ⟨r, er, lr, vr⟩ : ∃ r, r = vz ma.length ((nv ma % nv mb : Nat) : Int) ∧ r.length = a.length ∧ nv r = mg a % mg b := ⟨_, rfl, by rw [vz_length]; exact LA.out, by
    rw [nv_vz_nat, VA.out, VB.out]
    rw [LA.out, VA.out]
    exact Nat.lt_of_le_of_lt (Nat.mod_le _ _) (mg_lt' a)⟩
  rw [← eq] at q1 qo ⊢
  rw [← er] at r1 ro ⊢
  have hW3 := hide (hW2.out.trans (hb3.mono hW2.out.size))
  have QO := hide (qo.base hW2.out.size)
  have RO := hide (ro.base hW2.out.size)
  have Q1 := hide q1
  have Q2 := hide q2
  have R1 := hide r1
  have R2 := hide r2
  have LQ := hide lq
  have LR := hide lr
  have VQ := hide vq
  have VR := hide vr
  have hq4 : q.length ≤ 4096 := by omega
  have hr4 : r.length ≤ 4096 := by omega
  have HA3 := hide (HA.out.below hW3.out)
  have HB3 := hide (HB.out.below hW3.out)
  have eqv : q = vz a.length ((mg a / mg b : Nat) : Int) := by rw [eq, LA.out, VA.out, VB.out]
  have erv : r = vz a.length ((mg a % mg b : Nat) : Int) := by rw [er, LA.out, VA.out, VB.out]
  have EQ := hide eqv
  have ER := hide erv
  clear eq er q1 q2 r1 r2 qo ro hb3 lq lr vq vr eqv erv hz
  cases hx : ng a <;> cases hy : ng b
  · have hs := hide (sdiv_pp hx hy)
    go_wp2_with (first
      | (go_at_call 171; (with_reducible refine (neg_any _ _ _ _ (by assumption) (by first | exact HA3.out | exact HB3.out)).mono ?_); rintro e w' ⟨rfl, rfl⟩))
    go_ret3
    exact MkD.mk2 QO.out RO.out Q1.out Q2.out R1.out R2.out hW3.out (by rw [EQ.out, hs.out.1]) (by rw [ER.out, hs.out.2])
  · have hs := hide (sdiv_pn hx hy)
    go_wp2_with (first
      | (go_at_call 171; (with_reducible refine (neg_any _ _ _ _ (by assumption) (by first | exact HA3.out | exact HB3.out)).mono ?_); rintro e w' ⟨rfl, rfl⟩)
      | (go_at_call 198; (with_reducible refine (neg2_any _ _ _ _ (by assumption) QO.out.rd).mono ?_); rintro e w4 ⟨Q4, c4, rfl, t1, t2, t3, tb⟩; have T1 := hide t1; have T2 := hide t2; have T3 := hide t3; have TB := hide tb; have HA4 := hide (HA.out.below (hW3.out.trans (TB.out.mono hW3.out.size))); clear t1 t2 t3 tb)
      | (go_at_call 171; (with_reducible refine (neg_any _ _ _ _ (by assumption) HA4.out).mono ?_); rintro e w' ⟨rfl, rfl⟩))
    go_ret3
    exact MkD.mk2 (T3.out.base hW3.out.size) (RO.out.kept TB.out) T1.out T2.out R1.out R2.out (hW3.out.trans (TB.out.mono hW3.out.size)) (by rw [VQ.out, LQ.out, ← hs.out.1]) (by rw [ER.out, hs.out.2])
  · have hs := hide (sdiv_np hx hy)
    go_wp2_with fail
    refine (neg_any _ _ _ _ ha HA3.out).mono ?_
    rintro e w' ⟨rfl, rfl⟩
    go_wp2_with fail
    refine (neg_any _ _ _ _ hb HB3.out).mono ?_
    rintro e w' ⟨rfl, rfl⟩
    go_wp2_with fail
    refine (neg2_any _ _ _ _ hq4 QO.out.rd).mono ?_
    rintro e w4 ⟨Q4, c4, rfl, t1, t2, t3, tb⟩
    have T1 := hide t1
    have T2 := hide t2
    have T3 := hide t3
    have TB := hide tb
    have hW4 := hide (hW3.out.trans (tb.mono hW3.out.size))
    clear t1 t2 t3 tb
    go_wp2_with fail
    refine (neg_any _ _ _ _ ha (HA.out.below hW4.out)).mono ?_
    rintro e w' ⟨rfl, rfl⟩
    go_wp2_with fail
    refine (neg2_any _ _ _ _ hr4 (RO.out.kept TB.out).rd).mono ?_
    rintro e w5 ⟨R5, c5, rfl, t1, t2, t3, tb⟩
    have S1 := hide t1
    have S2 := hide t2
    have S3 := hide t3
    have SB := hide tb
    clear t1 t2 t3 tb
    go_wp2
    go_ret3
    exact MkD.mk2 ((T3.out.base hW3.out.size).kept SB.out) (S3.out.base hW4.out.size) T1.out T2.out S1.out S2.out (hW4.out.trans (SB.out.mono hW4.out.size)) (by rw [VQ.out, LQ.out, ← hs.out.1]) (by rw [VR.out, LR.out, ← hs.out.2])
  · have hs := hide (sdiv_nn hx hy)
    go_wp2_with fail
    refine (neg_any _ _ _ _ ha HA3.out).mono ?_
    rintro e w' ⟨rfl, rfl⟩
    go_wp2_with fail
    refine (neg_any _ _ _ _ hb HB3.out).mono ?_
    rintro e w' ⟨rfl, rfl⟩
    go_wp2_with fail
    refine (neg_any _ _ _ _ ha HA3.out).mono ?_
    rintro e w' ⟨rfl, rfl⟩
    go_wp2_with fail
    refine (neg2_any _ _ _ _ hr4 RO.out.rd).mono ?_
    rintro e w5 ⟨R5, c5, rfl, t1, t2, t3, tb⟩
    have S1 := hide t1
    have S2 := hide t2
    have S3 := hide t3
    have SB := hide tb
    clear t1 t2 t3 tb
    go_wp2
    go_ret3
    exact MkD.mk2 (QO.out.kept SB.out) (S3.out.base hW3.out.size) Q1.out Q2.out S1.out S2.out (hW3.out.trans (SB.out.mono hW3.out.size)) (by rw [EQ.out, hs.out.1]) (by rw [VR.out, LR.out, ← hs.out.2])
end
section
open Go.RowKit
set_option maxRecDepth 100000
set_option linter.unusedSimpArgs false
set_option linter.unusedVariables false
theorem and1 (x : Int) : bits .and .i64 x 1 = x % 2 := by
  show IntKind.i64.wrap ((BitVec.ofInt 64 x &&& BitVec.ofInt 64 1).toNat : Int) = _
  have h : (BitVec.ofInt 64 x &&& BitVec.ofInt 64 1).toNat = (x % 2).toNat := by
    rw [BitVec.toNat_and, BitVec.toNat_ofInt, BitVec.toNat_ofInt]
    rw [show ((1 : Int) % ((2 ^ 64 : Nat) : Int)).toNat = 1 from rfl, Nat.and_one_is_mod]
    omega
  rw [h, IntKind.wrap_i64]
  omega
theorem neg_one_div (p : Int) (h : 0 < p) : (-1 : Int) / p = -1 := by
  have k1 := Int.emod_add_mul_ediv (-1) p
  have k2 := Int.emod_nonneg (-1) (Int.ne_of_gt h)
  have k3 := Int.emod_lt_of_pos (-1) h
  have a : (-1 : Int) / p < 0 := by
    by_cases h1 : (-1 : Int) / p < 0
    · exact h1
    · have := Int.mul_nonneg (Int.le_of_lt h) (show 0 ≤ (-1 : Int) / p by omega); omega
  by_cases h1 : (-1 : Int) / p < -1
  · have : p * ((-1 : Int) / p) ≤ p * (-2) := Int.mul_le_mul_of_nonneg_left (by omega) (Int.le_of_lt h)
    omega
  · omega
theorem from_bit (z : Int) (k : Nat) (h1 : -9223372036854775808 ≤ z) (h2 : z ≤ 9223372036854775807) : (bits BinOp.and IntKind.i64 (z / 2 ^ min k 64) 1 == 1) = zb z k := by
  rw [and1]
  have e : z / 2 ^ min k 64 = z / 2 ^ k := by
    rcases Nat.le_total k 64 with h | h
    · rw [Nat.min_eq_left h]
    · rw [Nat.min_eq_right h]
      obtain ⟨d, rfl⟩ : ∃ d, k = 64 + d := ⟨k - 64, by omega⟩
      rw [Int.pow_add, ← Int.ediv_ediv_of_nonneg (by decide)]
      have p := two_pos d
      rcases (show z / 2 ^ 64 = 0 ∨ z / 2 ^ 64 = -1 by omega) with h0 | h0
      · rw [h0]; simp
      · rw [h0]
        rw [neg_one_div _ p]
  rw [e]
  unfold zb
  rfl
set_option maxHeartbeats 1000000 in
theorem from_any (z : Int) (n : Nat) (w : World) (hn : n ≤ 128) (h1 : -9223372036854775808 ≤ z) (h2 : z ≤ 9223372036854775807) :
    Calls Tryz.prog 95 #[.int .i64 z, .int .i64 n] w fun e w' => ∃ A c, e = .returned (.tuple #[.slice A n c, .int .i64 0]) ∧ n ≤ c ∧ c ≤ maxLen ∧ Own w.heap.size w' A (vz n z) ∧ Below w.heap.size w w' := by
  go_enter Tryz.func95, Tryz.ntmps95
  go_wp2_with (first
    | (at_make; refine wpList_make_bv _ rfl _ _ rfl _ _ n rfl rfl rfl rfl (by omega) ?_; intro w1 hr1 hb1 hz1))
  go_loopw [17] (fun i wr => ∃ k : Nat, k ≤ n ∧ i = .int .i64 k ∧ FillR w n k (zb z) wr) (fun i _ => n - (intOf i).toNat)
  case atStart => exact ⟨0, Nat.zero_le _, rfl, FillR.start hr1 hb1⟩
  case round =>
    obtain ⟨k, hk, rfl, hR⟩ := hrel
    clear hr1 hb1
    by_cases hlt : k < n
    · have hRH := hide hR
      have hcg : wr.cell? ⟨w.heap.size, k, none⟩ = some (.bool (Par k (zb z) k)) := hR.row.cell hlt
      have hf : wr.frozen? ⟨w.heap.size, k, none⟩ = false := hR.row.free _
      clear hR
      go_wp2
      rw [from_bit z k h1 h2]
      go_roundw
      case rel => exact ⟨k + 1, by omega, by go_num, hRH.out.step⟩
      case measure => simp [intOf]; omega
    · have hRH := hide hR
      clear hR
      have e : k = n := by omega
      subst e
      go_wp2
      go_ret2
      exact ⟨some ⟨w.heap.size, 0, none⟩, k, rfl, Nat.le_refl _, max_4096 (by omega), fun _ => ⟨w.heap.size, rfl, Nat.le_refl _, by rw [vz_length]; exact hRH.out.row.congr fun i hi => by rw [show vz k z = bl k (zb z) from rfl, bt_bl_lt hi]; simp [Par, hi]⟩, hRH.out.bel⟩
theorem from_err (z n : Int) (w : World) (hn : n < 0 ∨ 128 < n) :
    Calls Tryz.prog 95 #[.int .i64 z, .int .i64 n] w fun e w' => e = .returned (.tuple #[.slice none 0 0, .int .i64 1]) ∧ w = w' := by
  rcases hn with h | h
  · go_enter Tryz.func95, Tryz.ntmps95
    go_wp2
    go_ret2
    exact ⟨rfl, rfl⟩
  · have h0 : ¬ n < 0 := by omega
    go_enter Tryz.func95, Tryz.ntmps95
    go_wp2
    go_ret2
    exact ⟨rfl, rfl⟩
theorem or_step {m k : Nat} (hm : m < 2 ^ k) (hk : k < 64) : bits BinOp.or IntKind.u64 (m : Int) (IntKind.u64.wrap (2 ^ k)) = ((m + 2 ^ k : Nat) : Int) := by
  have hp : 2 ^ k ≤ 2 ^ 63 := Nat.pow_le_pow_right (by decide) (by omega)
  have e : IntKind.u64.wrap (2 ^ k) = ((2 ^ k : Nat) : Int) := by
    rw [IntKind.wrap_u64, ← two_cast]; omega
  rw [e, bits_or_u64_nat _ _ (by omega) (by omega)]
  have h := Nat.two_pow_add_eq_or_of_lt hm 1
  rw [Nat.mul_one] at h
  rw [Nat.or_comm, ← h, Nat.add_comm]
theorem nf_big {f : Nat → Bool} {n i : Nat} (hi : i < n) (h : f i = true) : 2 ^ i ≤ nf f n := by
  induction n with
  | zero => omega
  | succ n ih =>
    rw [nf_succ]
    by_cases e : i = n
    · subst e; rw [h]; simp
    · have := ih (by omega); omega
theorem nf_flat {f : Nat → Bool} {m n : Nat} (hmn : m ≤ n) (h : ∀ j, m ≤ j → j < n → f j = false) : nf f n = nf f m := by
  induction n with
  | zero => have : m = 0 := by omega
            subst this; rfl
  | succ n ih =>
    by_cases e : m = n + 1
    · subst e; rfl
    · rw [nf_succ, ih (by omega) fun j h1 h2 => h j h1 (by omega), h n (by omega) (by omega)]; simp
def UintA (a : List Bool) (e : Ending) : Prop := (nv a < 2 ^ 64 ∧ e = .returned (.tuple #[.int .u64 (nv a), .bool true])) ∨ (2 ^ 64 ≤ nv a ∧ e = .returned (.tuple #[.int .u64 0, .bool false]))
theorem UintA.yes {a : List Bool} {m : Nat} (h : nv a = m) (k : m < 2 ^ 64) : UintA a (.returned (.tuple #[.int .u64 m, .bool true])) := Or.inl ⟨by omega, by rw [h]⟩
theorem UintA.no {a : List Bool} (k : 2 ^ 64 ≤ nv a) : UintA a (.returned (.tuple #[.int .u64 0, .bool false])) := Or.inr ⟨k, rfl⟩
set_option maxHeartbeats 1000000 in
theorem uint_any (A : Option Addr) (a : List Bool) (c : Nat) (w : World) (ha : a.length ≤ 4096) (hA : Rd w A a) :
    Calls Tryz.prog 181 #[.slice A a.length c] w fun e w' => UintA a e ∧ w = w' := by
  have HA := hide hA
  clear hA
  go_enter Tryz.func181, Tryz.ntmps181
  go_wp2
  go_loop [4, 8] (fun n i => ∃ k : Nat, k ≤ a.length ∧ i = .int .i64 k ∧ n = .int .u64 (nf (bt a) k) ∧ Hid (∀ j, 64 ≤ j → j < k → bt a j = false)) (fun _ i => a.length - (intOf i).toNat)
  case atStart => exact ⟨0, Nat.zero_le _, rfl, rfl, hide fun j _ hj => by omega⟩
  case round =>
    obtain ⟨k, hk, rfl, rfl, hno⟩ := hrel
    by_cases hlt : k < a.length
    · obtain ⟨ad, rfl, hlt1, hc⟩ := HA.out.at_ hlt
      have hs := hide (nf_succ (bt a) k)
      cases hx : bt a k
      · rw [hx] at hc
        have hx' := hide hx
        clear hx
        go_wp2
        go_round
        case rel => exact ⟨k + 1, by omega, by go_num, by rw [hs.out, hx'.out]; simp, hide fun j h1 hj => by
          by_cases e : j = k
          · subst e; exact hx'.out
          · exact hno.out j h1 (by omega)⟩
        case measure => simp [intOf]; omega
      · rw [hx] at hc
        have hx' := hide hx
        clear hx
        by_cases h64 : k < 64
        · go_wp2
          rw [or_step (nf_lt (bt a) k) h64]
          go_round
          case rel => exact ⟨k + 1, by omega, by go_num, by rw [hs.out, hx'.out]; simp, hide fun j h1 hj => by omega⟩
          case measure => simp [intOf]; omega
        · go_wp2
          go_ret2
          exact ⟨UintA.no (Nat.le_trans (Nat.pow_le_pow_right (by decide) (by omega)) (nf_big hlt hx'.out)), rfl⟩
    · go_wp2
      go_ret2
      have e : k = a.length := by omega
      subst e
      refine ⟨UintA.yes rfl ?_, rfl⟩
      rcases Nat.le_total a.length 64 with h | h
      · exact Nat.lt_of_lt_of_le (nv_lt a) (Nat.pow_le_pow_right (by decide) h)
      · show nf (bt a) a.length < _
        rw [nf_flat h hno.out]; exact nf_lt _ _
def IntA (a : List Bool) (e : Ending) : Prop := (-9223372036854775808 ≤ sv a ∧ sv a ≤ 9223372036854775807 ∧ e = .returned (.tuple #[.int .i64 (sv a), .bool true])) ∨ (¬ (-9223372036854775808 ≤ sv a ∧ sv a ≤ 9223372036854775807) ∧ e = .returned (.tuple #[.int .i64 0, .bool false]))
theorem sv_nf (a : List Bool) (n : Nat) (h : a.length ≤ n) : (nf (ex a (ng a)) n : Int) = if ng a then sv a + 2 ^ n else sv a := by
  unfold sv
  cases hx : ng a
  · rw [ex_false, nf_bt h]; simp
  · rw [nf_ex_true a n h]; simp; omega
theorem int_out {a : List Bool} {k : Nat} (h63 : 63 ≤ k) (hx : ex a (ng a) k ≠ ng a) : ¬ (-9223372036854775808 ≤ sv a ∧ sv a ≤ 9223372036854775807) := by
  rintro ⟨h1, h2⟩
  apply hx
  rw [← zb_sv]
  obtain ⟨d, rfl⟩ : ∃ d, k = 63 + d := ⟨k - 63, by omega⟩
  unfold zb
  rw [Int.pow_add, ← Int.ediv_ediv_of_nonneg (by decide)]
  have p := two_pos d
  cases hn : ng a
  · have := sv_nn hn
    rw [show sv a / 2 ^ 63 = 0 by omega]; simp
  · have := sv_neg hn
    rw [show sv a / 2 ^ 63 = -1 by omega, neg_one_div _ p]; rfl
theorem int_in {a : List Bool} (h : ∀ j, 63 ≤ j → j < max a.length 64 → ex a (ng a) j = ng a) : (-9223372036854775808 ≤ sv a ∧ sv a ≤ 9223372036854775807) ∧ (nf (ex a (ng a)) 64 : Int) = if ng a then sv a + 18446744073709551616 else sv a := by
  obtain ⟨N, hN⟩ : ∃ N, N = max a.length 64 := ⟨_, rfl⟩
  have e := sv_nf a N (by omega)
  have n1 := nf_not (ex a (ng a)) N
  have n2 := nf_not (ex a (ng a)) 64
  have c64 : ((2 ^ 64 : Nat) : Int) = 18446744073709551616 := by decide
  have cN := two_cast N
  cases hx : ng a
  · rw [hx] at e h
    simp only [Bool.false_eq_true, if_false] at e ⊢
    have f1 := nf_flat (f := ex a false) (m := 63) (n := N) (by omega) fun j h1 h2 => h j h1 (by omega)
    have f2 := nf_flat (f := ex a false) (m := 63) (n := 64) (by omega) fun j h1 h2 => h j h1 (by omega)
    have l := nf_lt (ex a false) 63
    refine ⟨by omega, by omega⟩
  · rw [hx] at e h n1 n2
    simp only [if_true] at e ⊢
    have f1 := nf_flat (f := fun i => !ex a true i) (m := 63) (n := N) (by omega) fun j h1 h2 => by rw [h j h1 (by omega)]; rfl
    have f2 := nf_flat (f := fun i => !ex a true i) (m := 63) (n := 64) (by omega) fun j h1 h2 => by rw [h j h1 (by omega)]; rfl
    have l := nf_lt (fun i => !ex a true i) 63
    refine ⟨by omega, by omega⟩
theorem IntA.no {a : List Bool} {k : Nat} (h63 : 63 ≤ k) (hx : ex a (ng a) k ≠ ng a) : IntA a (.returned (.tuple #[.int .i64 0, .bool false])) := Or.inr ⟨int_out h63 hx, rfl⟩
theorem IntA.yes {a : List Bool} {m : Int} (h : ∀ j, 63 ≤ j → j < max a.length 64 → ex a (ng a) j = ng a) (hm : m = IntKind.i64.wrap (nf (ex a (ng a)) 64)) : IntA a (.returned (.tuple #[.int .i64 m, .bool true])) := by
  obtain ⟨⟨h1, h2⟩, h3⟩ := int_in h
  refine Or.inl ⟨h1, h2, ?_⟩
  rw [hm, IntKind.wrap_i64, h3]
  split <;> (congr; omega)
theorem wrap64_is (n : Int) : wrap64 n = IntKind.i64.wrap n := by rw [IntKind.wrap_i64]; unfold wrap64; rfl
set_option maxHeartbeats 2000000 in
theorem int_any (A : Option Addr) (a : List Bool) (c : Nat) (w : World) (ha : a.length ≤ 4096) (hA : Rd w A a) :
    Calls Tryz.prog 118 #[.slice A a.length c] w fun e w' => IntA a e ∧ w = w' := by
  have HA := hide hA
  clear hA
  obtain ⟨s, hs⟩ : ∃ s, s = ng a := ⟨_, rfl⟩
  have HS := hide hs
  have hng := hide (neg_any A a c w ha HA.out)
  rw [← hs] at hng
  clear hs
  go_enter Tryz.func118, Tryz.ntmps118
  go_wp2_with (go_at_call 171; (with_reducible refine (hng.out).mono ?_); rintro e w' ⟨rfl, rfl⟩)
  all_goals
    go_loop [4, 13] (fun n i => ∃ k : Nat, k ≤ max a.length 64 ∧ i = .int .i64 k ∧ n = .int .u64 (nf (ex a s) (min k 64)) ∧ Hid (∀ j, 63 ≤ j → j < k → ex a s j = s)) (fun _ i => max a.length 64 - (intOf i).toNat)
    case atStart => exact ⟨0, Nat.zero_le _, rfl, rfl, hide fun j _ hj => by omega⟩
    case round =>
      obtain ⟨k, hk, rfl, rfl, hno⟩ := hrel
      by_cases hlt : k < max a.length 64
      · have he := hide (ext_any A a c k s w ha (by omega) HA.out)
        have hst := hide (nf_succ (ex a s) k)
        have hno1 : Hid (ex a s k = s → ∀ j, 63 ≤ j → j < k + 1 → ex a s j = s) := hide fun h j h1 hj => by
          by_cases e : j = k
          · subst e; exact h
          · exact hno.out j h1 (by omega)
        have hlt1 : (k : Int) < a.length ∨ (k : Int) < 64 := by omega
        (try have hq : k < a.length := by omega)
        (try have hq2 : k < 64 := by omega)
        have HX := hide (rfl : ex a s k = ex a s k)
        obtain ⟨x, hx⟩ : ∃ x, x = ex a s k := ⟨_, rfl⟩
        rw [← hx] at he
        have hx' := hide hx
        clear hx hlt1 HX
        by_cases h63 : k < 63
        · have em : Hid (min k 64 = k) := hide (by omega)
          have em1 : Hid (min (k + 1) 64 = k + 1) := hide (by omega)
          rw [em.out]
          cases x
          · go_wp2_with (go_at_call 172; (with_reducible refine (he.out).mono ?_); rintro e w' ⟨rfl, rfl⟩)
            go_round
            case rel => exact ⟨k + 1, by omega, by go_num, by rw [em1.out, hst.out, ← hx'.out]; simp, hide fun j h1 hj => by omega⟩
            case measure => simp [intOf]; omega
          · go_wp2_with (go_at_call 172; (with_reducible refine (he.out).mono ?_); rintro e w' ⟨rfl, rfl⟩)
            rw [or_step (nf_lt (ex a s) k) (by omega)]
            go_round
            case rel => exact ⟨k + 1, by omega, by go_num, by rw [em1.out, hst.out, ← hx'.out]; simp, hide fun j h1 hj => by omega⟩
            case measure => simp [intOf]; omega
        · by_cases hxs : x = s
          · subst hxs
            by_cases h64 : k < 64
            · have em : Hid (min k 64 = k) := hide (by omega)
              have em1 : Hid (min (k + 1) 64 = k + 1) := hide (by omega)
              rw [em.out]
              cases x
              · go_wp2_with (go_at_call 172; (with_reducible refine (he.out).mono ?_); rintro e w' ⟨rfl, rfl⟩)
                go_round
                case rel => exact ⟨k + 1, by omega, by go_num, by rw [em1.out, hst.out, ← hx'.out]; simp, hide (hno1.out hx'.out.symm)⟩
                case measure => simp [intOf]; omega
              · go_wp2_with (go_at_call 172; (with_reducible refine (he.out).mono ?_); rintro e w' ⟨rfl, rfl⟩)
                rw [or_step (nf_lt (ex a true) k) (by omega)]
                go_round
                case rel => exact ⟨k + 1, by omega, by go_num, by rw [em1.out, hst.out, ← hx'.out]; simp, hide (hno1.out hx'.out.symm)⟩
                case measure => simp [intOf]; omega
            · have em : Hid (min k 64 = 64) := hide (by omega)
              have em1 : Hid (min (k + 1) 64 = 64) := hide (by omega)
              rw [em.out]
              by_cases hc0 : a.length ≤ 64
              · exfalso; omega
              · cases x
                all_goals
                  first
                    | (exfalso; omega)
                    | (go_wp2_with (go_at_call 172; (with_reducible refine (he.out).mono ?_); rintro e w' ⟨rfl, rfl⟩)
                       go_round
                       case rel => exact ⟨k + 1, by omega, by go_num, by rw [em1.out], hide (hno1.out hx'.out.symm)⟩
                       case measure => simp [intOf]; omega)
          · have HK := hide h63
            have hne := hide hxs
            cases x <;> cases s
            · exact absurd rfl hxs
            · clear hxs
              go_wp2_with (go_at_call 172; (with_reducible refine (he.out).mono ?_); rintro e w' ⟨rfl, rfl⟩)
              go_ret2
              exact ⟨IntA.no (k := k) (by have := HK.out; omega) (by rw [← HS.out, ← hx'.out]; simp), rfl⟩
            · clear hxs
              go_wp2_with (go_at_call 172; (with_reducible refine (he.out).mono ?_); rintro e w' ⟨rfl, rfl⟩)
              go_ret2
              exact ⟨IntA.no (k := k) (by have := HK.out; omega) (by rw [← HS.out, ← hx'.out]; simp), rfl⟩
            · exact absurd rfl hxs
      · (try have hq : a.length ≤ k := by omega)
        (try have hq2 : 64 ≤ k := by omega)
        have em : Hid (min k 64 = 64) := hide (by omega)
        have ek : k = max a.length 64 := by omega
        have EK := hide ek
        rw [em.out]
        clear ek
        go_wp2
        go_ret2
        exact ⟨IntA.yes (fun j h1 h2 => by rw [← HS.out]; exact hno.out j h1 (by rw [EK.out]; exact h2)) (by rw [← HS.out]; exact wrap64_is _), rfl⟩
end
section
open Go.RowKit
set_option maxRecDepth 100000
set_option linter.unusedSimpArgs false
set_option linter.unusedVariables false
def RetP (P : List Bool → Prop) (w : World) (e : Ending) (w' : World) : Prop :=
  ∃ l A c, Hid (P l) ∧ e = .returned (.slice A l.length c) ∧ Hid (l.length ≤ c ∧ c ≤ maxLen) ∧ Hid (Own w.heap.size w' A l) ∧ Below w.heap.size w w'
theorem RetP.of_mkV {l : List Bool} {w w' : World} {e : Ending} {P : List Bool → Prop} (hp : P l) (h : MkV l w e w') : RetP P w e w' := by
  obtain ⟨A, c, he, h1, h2, h3, h4⟩ := h
  exact ⟨l, A, c, hide hp, he, hide ⟨h1, h2⟩, hide h3, h4⟩
structure OwnL (w : World) (v : Value) (l : List Bool) (wr : World) : Prop where
  own : wr.ownsRow w.heap.size 4 1 v l.length (l.map Value.bool)
  bel : Below w.heap.size w wr
theorem OwnL.nil (w : World) : OwnL w (.slice none 0 0) [] w := ⟨own_nil w _, Below.refl _ _⟩
theorem OwnL.add {w wr w1 : World} {v' : Value} {l m : List Bool} {n k : Nat} (hb : Below w.heap.size w wr) (h : w1.ownsRow w.heap.size 4 1 v' (n + k) ((l ++ m).map Value.bool)) (hb1 : Below w.heap.size wr w1) : OwnL w v' (l ++ m) w1 := by
  have hl : n + k = (l ++ m).length := by have := h.1; simpa using this.symm
  rw [hl] at h
  exact ⟨h, hb.trans hb1⟩
theorem OwnL.done {w wr : World} {v : Value} {l : List Bool} {P : List Bool → Prop} (h : OwnL w v l wr) (hp : P l) : RetP P w (.returned v) wr := by
  obtain ⟨A, c, rfl, h1, h2, h3⟩ := own_open h.own
  exact ⟨l, A, c, hide hp, rfl, hide ⟨h1, h2⟩, hide h3, h.bel⟩
theorem bl_snoc (k : Nat) (f : Nat → Bool) : bl (k + 1) f = bl k f ++ [f k] := by unfold bl; rw [List.range_succ, List.map_append]; rfl
theorem one_rd (w : World) (x : Bool) : Rd (w.alloc (.cells #[.bool x] 4)) (some ⟨w.heap.size, 0, none⟩) [x] := fun _ => by
  refine ⟨_, rfl, by simp, fun i hi => ?_⟩
  obtain rfl : i = 0 := by simpa using hi
  rw [addr_add, cell_of_row _ _ _ _ _ _ (heap_alloc_new w _)]
  rfl
set_option maxHeartbeats 400000 in
theorem at_any (A : Option Addr) (l : List Bool) (c : Nat) (i : Nat) (w : World) (hl : l.length ≤ 4096) (hi : i ≤ 20000) (h : Rd w A l) :
    Calls Tryz.prog 186 #[.slice A l.length c, .int .i64 i] w fun e w' => e = .returned (.bool (bt l i)) ∧ w = w' := by
  by_cases hlt : i < l.length
  · obtain ⟨ad, rfl, hb, hc⟩ := h.at_ hlt
    clear h
    go_enter Tryz.func186, Tryz.ntmps186
    go_wp2
    go_ret
    exact ⟨rfl, rfl⟩
  · rw [bt_ge (by omega)]
    clear h
    go_enter Tryz.func186, Tryz.ntmps186
    go_wp2
    go_ret
    exact ⟨rfl, rfl⟩
set_option maxHeartbeats 400000 in
theorem rneg_any (A : Option Addr) (l : List Bool) (c : Nat) (w : World) (hl : l.length ≤ 4096) (h : Rd w A l) :
    Calls Tryz.prog 150 #[.slice A l.length c] w fun e w' => e = .returned (.bool (ng l)) ∧ w = w' := by
  by_cases hlt : 0 < l.length
  · obtain ⟨ad, rfl, hb, hc⟩ := h.at_ (i := l.length - 1) (by omega)
    clear h
    have e : ng l = bt l (l.length - 1) := by unfold ng; simp [hlt]
    rw [e]
    clear e
    obtain ⟨n, hn⟩ : ∃ n, l.length = n + 1 := ⟨l.length - 1, by omega⟩
    have hm : n ≤ 4096 := by omega
    rw [hn] at hc ⊢
    simp only [Nat.add_sub_cancel] at hc ⊢
    generalize bt l n = v at *
    clear hn hl hlt
    go_enter Tryz.func150, Tryz.ntmps150
    go_wp2
    go_ret
    exact ⟨rfl, rfl⟩
  · have e : ng l = false := by unfold ng; simp [hlt]
    have hz : l.length = 0 := by omega
    rw [e, hz]
    clear e h hl hlt hz
    go_enter Tryz.func150, Tryz.ntmps150
    go_wp2
    go_ret
    exact ⟨rfl, rfl⟩
set_option maxHeartbeats 1000000 in
theorem fit_any (A : Option Addr) (a : List Bool) (c n : Nat) (w : World) (ha : a.length ≤ 4096) (hn : n ≤ 4096) (hA : Rd w A a) :
    Calls Tryz.prog 154 #[.slice A a.length c, .int .i64 n] w (RetP (fun l => l = vz n (nv a)) w) := by
  have HA := hide hA
  clear hA
  go_enter Tryz.func154, Tryz.ntmps154
  go_wp2
  go_loopw [5, 6] (fun v i wr => ∃ k : Nat, k ≤ n ∧ i = .int .i64 k ∧ OwnL w v (bl k (bt a)) wr) (fun _ i _ => n - (intOf i).toNat)
  case atStart => exact ⟨0, Nat.zero_le _, rfl, OwnL.nil w⟩
  case round =>
    obtain ⟨k, hk, rfl, hR⟩ := hrel
    have hRH := hide hR
    clear hR
    by_cases hlt : k < n
    · have hat := hide (at_any A a c k wr ha (by omega) (HA.out.below hRH.out.bel))
      go_wp2_with (first
        | (go_at_call 186; (with_reducible refine (hat.out).mono ?_); rintro e w' ⟨rfl, rfl⟩)
        | (at_builtin; refine wpList_append_bv _ rfl _ _ rfl w.heap.size _ _ (bl k (bt a)) rfl (hRH.out.own.alloc _) (some ⟨wr.heap.size, 0, none⟩) 1 1 [bt a k] rfl rfl (one_rd _ _) (by rw [bl_length]; simp; omega) (by have := hRH.out.bel.size; simp; omega) ?_; intro v' w1 hown' hb'))
      go_roundw
      case rel => exact ⟨k + 1, by omega, by go_num, by rw [bl_snoc]; exact OwnL.add (hRH.out.bel.alloc hRH.out.bel.size _) hown' hb'⟩
      case measure => simp [intOf]; omega
    · have e : k = n := by omega
      subst e
      go_wp2
      go_ret
      exact hRH.out.done (bl_congr fun i hi => (zb_nv a i).symm)
end
section
open Go.RowKit
set_option maxRecDepth 100000
set_option linter.unusedSimpArgs false
set_option linter.unusedVariables false
section
variable (A B : Option Addr) (a b : List Bool) (c d : Nat) (w : World) (ha : a.length ≤ 4096)
include ha in
include ha in
include ha in
include ha in
include ha in
end
section
variable (A : Option Addr) (a : List Bool) (c : Nat) (k : Int) (w : World) (ha : a.length ≤ 4096) (hA : Rd w A a)
include ha hA
end
def RetD (P Q : List Bool → Prop) (w : World) (e : Ending) (w' : World) : Prop :=
  ∃ q A c r B d, Hid (P q) ∧ Hid (Q r) ∧ e = .returned (.tuple #[.slice A q.length c, .slice B r.length d, .int .i64 0]) ∧ Hid (Own w.heap.size w' A q) ∧ Hid (Own w.heap.size w' B r) ∧ Below w.heap.size w w'
section
variable (A B : Option Addr) (a b : List Bool) (c d : Nat) (w : World) (ha : a.length ≤ 4096) (hb : b.length ≤ 4096) (hA : Rd w A a) (hB : Rd w B b)
include ha hb hA hB
end
end
section
open Go.RowKit
set_option maxRecDepth 100000
set_option linter.unusedSimpArgs false
set_option linter.unusedVariables false
section
variable (n : Nat) (p q : Int)
theorem vz_addr : vz n (p + (nv (vz n q) : Int)) = vz n (p + q) := vz_eq (by rw [nv_vz, Int.add_emod_emod])
theorem vz_mulr : vz n (p * (nv (vz n q) : Int)) = vz n (p * q) := vz_eq (by rw [nv_vz, Int.mul_emod, Int.emod_emod, ← Int.mul_emod])
theorem vz_subr : vz n (p - (nv (vz n q) : Int)) = vz n (p - q) := vz_eq (by rw [nv_vz, Int.sub_emod_emod])
theorem vz_neg : vz n (-(nv (vz n p) : Int)) = vz n (-p) := by
  rw [show -(nv (vz n p) : Int) = 0 - nv (vz n p) from by omega, vz_subr, show (0 : Int) - p = -p from by omega]
end
def Sls (w : World) (g : Nat) (vs : List (Option Addr × Nat × Nat)) : Prop := ∀ i (h : i < vs.length), w.cell? ⟨g, i, none⟩ = some (.slice vs[i].1 vs[i].2.1 vs[i].2.2)
end
section
open Go.RowKit
set_option maxRecDepth 100000
set_option linter.unusedSimpArgs false
set_option linter.unusedVariables false
theorem nv_snoc (l : List Bool) (b : Bool) : nv (l ++ [b]) = nv l + 2 ^ l.length * b.toNat := by
  unfold nv
  rw [List.length_append, List.length_singleton, nf_succ]
  have h1 : nf (bt (l ++ [b])) l.length = nf (bt l) l.length := nf_congr fun i hi => by
    unfold bt; rw [List.getD_eq_getElem?_getD, List.getD_eq_getElem?_getD, List.getElem?_append_left hi]
  have h2 : bt (l ++ [b]) l.length = b := by unfold bt; simp
  rw [h1, h2]
theorem take_bt (a : List Bool) (k : Nat) (hk : k ≤ a.length) : a.take k = bl k (bt a) :=
  eq_bl (by simp; omega) fun i hi => by
    unfold bt; rw [List.getD_eq_getElem?_getD, List.getElem?_take, if_pos hi, ← List.getD_eq_getElem?_getD]
theorem take_rd {w : World} {A : Option Addr} {a : List Bool} (h : Rd w A a) (k : Nat) (hk : k ≤ a.length) : Rd w A (a.take k) := fun hn => by
  have hl : (a.take k).length = k := by simp; omega
  obtain ⟨ad, e, hb, hc⟩ := h (by omega)
  refine ⟨ad, e, hb, fun i hi => ?_⟩
  rw [hl] at hi
  rw [hc i (by omega), take_bt a k hk, bt_bl_lt hi]
def Trimmed (a l : List Bool) : Prop := nv l = nv a ∧ l.length ≤ a.length ∧ (0 < l.length → bt l (l.length - 1) = true)
set_option maxHeartbeats 1000000 in
theorem trim_any (A : Option Addr) (a : List Bool) (c : Nat) (w : World) (ha : a.length ≤ 4096) (hcap : Hid (a.length ≤ c ∧ c ≤ maxLen)) (hA : Rd w A a) :
    Calls Tryz.prog 185 #[.slice A a.length c] w (RetP (Trimmed a) w) := by
  have HA := hide hA
  clear hA
  go_enter Tryz.func185, Tryz.ntmps185
  go_wp2
  go_loop [3] (fun i => ∃ k : Nat, k ≤ a.length ∧ i = .int .i64 k ∧ Hid (∀ j, k ≤ j → bt a j = false)) (fun i => (intOf i).toNat)
  case atStart => exact ⟨a.length, Nat.le_refl _, rfl, hide fun j hj => bt_ge hj⟩
  case round =>
    obtain ⟨k, hk, rfl, hno⟩ := hrel
    have hkc : k ≤ c := Nat.le_trans hk hcap.out.1
    have hcm := hcap.out.2
    unfold maxLen at hcm
    have fin : ∀ v' w', w'.ownsRow w.heap.size 4 1 v' (0 + k) (([] ++ a.take k).map Value.bool) → Below w.heap.size (w.alloc (.cells #[] 4)) w' → Hid (0 < k → bt a (k - 1) = true) → RetP (Trimmed a) w (.returned v') w' := by
      intro v' w' h hb ht
      have hl : (a.take k).length = k := by simp; omega
      have h2 : OwnL w v' ([] ++ a.take k) w' := OwnL.add (k := k) ((Below.refl _ _).alloc (Nat.le_refl _) _) h hb
      refine h2.done ?_
      rw [List.nil_append]
      refine ⟨?_, by omega, fun h0 => ?_⟩
      · rw [take_bt a k hk, nv_bl]
        exact (nf_flat hk fun j h1 _ => hno.out j h1).symm
      · rw [hl] at h0 ⊢
        rw [take_bt a k hk, bt_bl_lt (by omega)]
        exact ht.out h0
    have FIN := hide fin
    clear fin
    have hrd := hide (take_rd HA.out k hk)
    have htl : (a.take k).length = k := by simp; omega
    have HTL := hide htl
    clear htl
    rcases Nat.eq_zero_or_pos k with h0 | h0
    · subst h0
      go_wp2_with (at_builtin; refine wpList_append_bv _ rfl _ _ rfl w.heap.size _ 0 [] rfl (own_empty _ _ (Nat.le_refl _)) A 0 c (a.take 0) rfl rfl (hrd.out.below ((Below.refl _ _).alloc (Nat.le_refl _) _)) (by simp) (by simp) ?_; intro v' w' hown hb)
      go_ret
      exact FIN.out _ _ hown hb (hide fun h => absurd h (by omega))
    · obtain ⟨m, rfl⟩ : ∃ m, k = m + 1 := ⟨k - 1, by omega⟩
      have hma : m < a.length := by omega
      obtain ⟨ad, rfl, hlt1, hc⟩ := HA.out.at_ hma
      cases hx : bt a m
      · rw [hx] at hc
        have hx' := hide hx
        clear hx
        go_wp2
        go_round
        case rel => exact ⟨m, by omega, by go_num, hide fun j hj => by
          by_cases e : j = m
          · subst e; exact hx'.out
          · exact hno.out j (by omega)⟩
        case measure => simp [intOf]
      · rw [hx] at hc
        have hx' := hide hx
        clear hx
        go_wp2_with (at_builtin; refine wpList_append_bv _ rfl _ _ rfl w.heap.size _ 0 [] rfl (own_empty _ _ (Nat.le_refl _)) (some ad) (m + 1) c (a.take (m + 1)) rfl HTL.out.symm (hrd.out.below ((Below.refl _ _).alloc (Nat.le_refl _) _)) (by rw [HTL.out]; simp; omega) (by simp) ?_; intro v' w' hown hb)
        go_ret
        exact FIN.out _ _ hown hb (hide fun h => hx'.out)
theorem one_add {w wr w1 : World} {v' : Value} {l : List Bool} {b : Bool} {n : Nat} (hb : Below w.heap.size w wr) (h : w1.ownsRow w.heap.size 4 1 v' (n + 1) ((l ++ [b]).map Value.bool)) (hb1 : Below w.heap.size (wr.alloc (.cells #[.bool b] 4)) w1) : OwnL w v' (l ++ [b]) w1 :=
  OwnL.add (k := 1) (hb.alloc hb.size _) h hb1
set_option maxHeartbeats 2000000 in
theorem sum_any (A B : Option Addr) (a b : List Bool) (c d : Nat) (w : World) (ha : a.length ≤ 4096) (hb : b.length ≤ 4096) (hA : Rd w A a) (hB : Rd w B b) :
    Calls Tryz.prog 187 #[.slice A a.length c, .slice B b.length d] w (RetP (fun l => nv l = nv a + nv b ∧ l.length ≤ max a.length b.length + 1) w) := by
  have HA := hide hA
  have HB := hide hB
  clear hA hB
  go_enter Tryz.func187, Tryz.ntmps187
  go_wp2
  go_loopw [5, 6, 7] (fun v cr i wr => ∃ k : Nat, k ≤ max a.length b.length + 1 ∧ i = .int .i64 k ∧ cr = .int .i64 (cy false (bt a) (bt b) k).toNat ∧ (max a.length b.length < k → cy false (bt a) (bt b) k = false) ∧ OwnL w v (bl k (sb false (bt a) (bt b))) wr) (fun _ _ i _ => max a.length b.length + 1 - (intOf i).toNat)
  case atStart => exact ⟨0, Nat.zero_le _, rfl, rfl, fun h => absurd h (by omega), OwnL.nil w⟩
  case round =>
    obtain ⟨k, hk, rfl, rfl, hcl, hR⟩ := hrel
    have hRH := hide hR
    have HCL := hide hcl
    clear hR hcl
    have hata := hide (at_any A a c k wr ha (by omega) (HA.out.below hRH.out.bel))
    have hatb := hide (at_any B b d k wr hb (by omega) (HB.out.below hRH.out.bel))
    have hcy : Hid (cy false (bt a) (bt b) (k + 1) = ((bt a k && bt b k) || ((bt a k != bt b k) && cy false (bt a) (bt b) k))) := hide rfl
    have hsb : Hid (sb false (bt a) (bt b) k = (bt a k != (bt b k != cy false (bt a) (bt b) k))) := hide rfl
    have hxe : max a.length b.length ≤ k → bt a k = false ∧ bt b k = false := fun h => ⟨bt_ge (by omega), bt_ge (by omega)⟩
    obtain ⟨x, hx⟩ : ∃ x, x = bt a k := ⟨_, rfl⟩
    obtain ⟨y, hy⟩ : ∃ y, y = bt b k := ⟨_, rfl⟩
    obtain ⟨z, hz⟩ : ∃ z, z = cy false (bt a) (bt b) k := ⟨_, rfl⟩
    rw [← hx, ← hy, ← hz] at hcy hsb
    rw [← hx, ← hy] at hxe
    rw [← hx] at hata
    rw [← hy] at hatb
    rw [← hz] at HCL ⊢
    have HXE := hide hxe
    have HZ := hide hz
    have fin : Hid (max a.length b.length ≤ k → z = false → nv (bl k (sb false (bt a) (bt b))) = nv a + nv b) := hide (fun h1 h2 => by
      have q := nf_sb false (bt a) (bt b) k
      rw [← hz, h2, nf_bt (Nat.le_trans (Nat.le_max_left _ _) h1), nf_bt (Nat.le_trans (Nat.le_max_right _ _) h1)] at q
      rw [nv_bl]; simpa using q)
    clear hx hy hz hxe
    by_cases hgo : k < max a.length b.length
    · have hin : k < a.length ∨ k < b.length := by omega
      have HIN := hide hin
      clear hin
      cases x <;> cases y <;> cases z
      all_goals
        by_cases hka : k < a.length
        all_goals
          (try have hkb : k < b.length := by have := HIN.out; omega)
          go_wp2_with (first
            | (go_at_call 186; (with_reducible refine (hata.out).mono ?_); rintro e w' ⟨rfl, rfl⟩)
            | (go_at_call 186; (with_reducible refine (hatb.out).mono ?_); rintro e w' ⟨rfl, rfl⟩)
            | (at_builtin; refine wpList_append_bv _ rfl _ _ rfl w.heap.size _ _ (bl k (sb false (bt a) (bt b))) rfl (hRH.out.own.alloc _) (some ⟨wr.heap.size, 0, none⟩) 1 1 [_] rfl rfl (one_rd _ _) (by rw [bl_length]; simp; omega) (by have := hRH.out.bel.size; simp; omega) ?_; intro v' w1 hown' hb'))
          go_roundw
          case rel => exact ⟨k + 1, by omega, by go_num, by rw [hcy.out]; rfl, fun h => absurd h (by omega), by rw [bl_snoc, hsb.out]; exact one_add hRH.out.bel hown' hb'⟩
          case measure => simp [intOf]; omega
    · obtain ⟨e1, e2⟩ := HXE.out (by omega)
      have hka : ¬ k < a.length := by omega
      have hkb : ¬ k < b.length := by omega
      cases z
      · have hF := hide (fin.out (by omega) rfl)
        clear fin
        go_wp2
        go_ret
        exact hRH.out.done ⟨hF.out, by rw [bl_length]; exact hk⟩
      · have hkm : k = max a.length b.length := by
          rcases Nat.lt_or_ge (max a.length b.length) k with h | h
          · exact absurd (HCL.out h) (by simp)
          · omega
        have HKM := hide hkm
        subst e1; subst e2
        clear hkm
        go_wp2_with (first
          | (go_at_call 186; (with_reducible refine (hata.out).mono ?_); rintro e w' ⟨rfl, rfl⟩)
          | (go_at_call 186; (with_reducible refine (hatb.out).mono ?_); rintro e w' ⟨rfl, rfl⟩)
          | (at_builtin; refine wpList_append_bv _ rfl _ _ rfl w.heap.size _ _ (bl k (sb false (bt a) (bt b))) rfl (hRH.out.own.alloc _) (some ⟨wr.heap.size, 0, none⟩) 1 1 [_] rfl rfl (one_rd _ _) (by rw [bl_length]; simp; omega) (by have := hRH.out.bel.size; simp; omega) ?_; intro v' w1 hown' hb'))
        go_roundw
        case rel => exact ⟨k + 1, by have := HKM.out; omega, by go_num, by rw [hcy.out]; rfl, fun h => by rw [hcy.out]; rfl, by rw [bl_snoc, hsb.out]; exact one_add hRH.out.bel hown' hb'⟩
        case measure => have := HKM.out; simp [intOf]; omega
def bw (f g : Nat → Bool) : Nat → Bool
  | 0 => false
  | i + 1 => (!f i && (g i || bw f g i)) || (g i && bw f g i)
def db (f g : Nat → Bool) (i : Nat) : Bool := f i != (g i != bw f g i)
theorem nf_db (f g : Nat → Bool) (n : Nat) : nf (db f g) n + nf g n = nf f n + 2 ^ n * (bw f g n).toNat := by
  induction n with
  | zero => simp [nf, bw]
  | succ n ih =>
    have e : (db f g n).toNat + (g n).toNat + (bw f g n).toNat = (f n).toNat + 2 * (bw f g (n + 1)).toNat := by
      unfold db
      show _ = _ + 2 * ((!f n && (g n || bw f g n)) || (g n && bw f g n)).toNat
      cases f n <;> cases g n <;> cases bw f g n <;> rfl
    rw [nf_succ, nf_succ, nf_succ, Nat.pow_succ]
    have k := congrArg (2 ^ n * ·) e
    simp only [Nat.mul_add] at k
    rw [Nat.mul_assoc (2 ^ n) 2]
    omega
set_option maxHeartbeats 2000000 in
theorem minus_any (A B : Option Addr) (a b : List Bool) (c d : Nat) (w : World) (ha : a.length ≤ 4096) (hb : b.length ≤ 4096) (hA : Rd w A a) (hB : Rd w B b) (hle : nv b ≤ nv a) :
    Calls Tryz.prog 183 #[.slice A a.length c, .slice B b.length d] w (RetP (fun l => nv l = nv a - nv b ∧ l.length = a.length) w) := by
  have HA := hide hA
  have HB := hide hB
  have HLE := hide hle
  clear hA hB hle
  go_enter Tryz.func183, Tryz.ntmps183
  go_wp2
  go_loopw [5, 6, 7] (fun v cr i wr => ∃ k : Nat, k ≤ a.length ∧ i = .int .i64 k ∧ cr = .int .i64 (bw (bt a) (bt b) k).toNat ∧ OwnL w v (bl k (db (bt a) (bt b))) wr) (fun _ _ i _ => a.length - (intOf i).toNat)
  case atStart => exact ⟨0, Nat.zero_le _, rfl, rfl, OwnL.nil w⟩
  case round =>
    obtain ⟨k, hk, rfl, rfl, hR⟩ := hrel
    have hRH := hide hR
    clear hR
    by_cases hlt : k < a.length
    · have hatb := hide (at_any B b d k wr hb (by omega) (HB.out.below hRH.out.bel))
      have hRdA := HA.out.below hRH.out.bel
      obtain ⟨ad, rfl, hlt1, hc⟩ := hRdA.at_ hlt
      clear hRdA
      have hbw : Hid (bw (bt a) (bt b) (k + 1) = ((!bt a k && (bt b k || bw (bt a) (bt b) k)) || (bt b k && bw (bt a) (bt b) k))) := hide rfl
      have hdb : Hid (db (bt a) (bt b) k = (bt a k != (bt b k != bw (bt a) (bt b) k))) := hide rfl
      obtain ⟨x, hx⟩ : ∃ x, x = bt a k := ⟨_, rfl⟩
      obtain ⟨y, hy⟩ : ∃ y, y = bt b k := ⟨_, rfl⟩
      obtain ⟨z, hz⟩ : ∃ z, z = bw (bt a) (bt b) k := ⟨_, rfl⟩
      rw [← hx, ← hy, ← hz] at hbw hdb
      rw [← hx] at hc
      rw [← hy] at hatb
      rw [← hz]
      clear hx hy hz
      cases x <;> cases y <;> cases z
      all_goals
        go_wp2_with (first
          | (go_at_call 186; (with_reducible refine (hatb.out).mono ?_); rintro e w' ⟨rfl, rfl⟩)
          | (at_builtin; refine wpList_append_bv _ rfl _ _ rfl w.heap.size _ _ (bl k (db (bt a) (bt b))) rfl (hRH.out.own.alloc _) (some ⟨wr.heap.size, 0, none⟩) 1 1 [_] rfl rfl (one_rd _ _) (by rw [bl_length]; simp; omega) (by have := hRH.out.bel.size; simp; omega) ?_; intro v' w1 hown' hb'))
        go_roundw
        case rel => exact ⟨k + 1, by omega, by go_num, by rw [hbw.out]; rfl, by rw [bl_snoc, hdb.out]; exact one_add hRH.out.bel hown' hb'⟩
        case measure => simp [intOf]; omega
    · have e : k = a.length := by omega
      subst e
      go_wp2
      go_ret
      refine hRH.out.done ⟨?_, bl_length _ _⟩
      rw [nv_bl]
      have q := nf_db (bt a) (bt b) a.length
      have l := nf_lt (db (bt a) (bt b)) a.length
      have q1 : nf (bt a) a.length = nv a := rfl
      have q2 := nf_bt_mod b a.length
      have q3 := nv_lt a
      have hle := HLE.out
      rw [q1, q2, Nat.mod_eq_of_lt (by omega)] at q
      cases hz : bw (bt a) (bt b) a.length
      · rw [hz] at q; simp at q; omega
      · rw [hz] at q; simp at q; omega
theorem nv_append (l m : List Bool) : nv (l ++ m) = nv l + 2 ^ l.length * nv m := by
  unfold nv
  rw [List.length_append, nf_Mid_val]
  have h1 : nf (bt (l ++ m)) l.length = nf (bt l) l.length := nf_congr fun i hi => by
    unfold bt; rw [List.getD_eq_getElem?_getD, List.getD_eq_getElem?_getD, List.getElem?_append_left hi]
  have h2 : nf (fun i => bt (l ++ m) (l.length + i)) m.length = nf (bt m) m.length := nf_congr fun i hi => by
    unfold bt; rw [List.getD_eq_getElem?_getD, List.getD_eq_getElem?_getD, List.getElem?_append_right (by omega), show l.length + i - l.length = i by omega]
  rw [h1, h2]
theorem nv_zeros (n : Nat) : nv (List.replicate n false) = 0 := nf_none fun i hi => by unfold bt; rw [List.length_replicate] at hi; simp [hi]
theorem wpList_make_ow (w : World) {ops : Array Oper} {rest : List Oper} {o : Oper} {a : Act} {Q : Exit → Act → World → Prop} (hg : o.guard = none) (x y : Operand) (hop : o.op = Op.makeSlice 82 x y)
    (L C : Int) (n : Nat) (hl : a.eval x = .int .i64 L) (hc : a.eval y = .int .i64 C) (hL : L = n) (hC : C = n) (hn : n ≤ 4096)
    (hK : ∀ w', w'.ownsRow w.heap.size 4 1 (.slice (some ⟨w.heap.size, 0, none⟩) n n) n ((List.replicate n false).map Value.bool) → Below w.heap.size w w' → w.heap.size < w'.heap.size → wpList Tryz.prog ops Q rest (a.put o.dst (.slice (some ⟨w.heap.size, 0, none⟩) n n)) w') :
    wpList Tryz.prog ops Q (o :: rest) a w := by
  obtain ⟨i0, hi, hz0, hz1, hz2⟩ := info_parts bool_info
  refine wpList_make_full w hg x y 82 hop w.heap.size 4 i0 (.bool false) 1 Tryz.underlying82 hi hz0 hz1 .i64 .i64 L C n hl hc hL hC (by rw [hz2]; omega) (by simp only [maxLen]; omega) (Nat.le_refl _) ?_
  intro w' hown hgrow
  have hlen : (madeCells (Value.bool false).cells (n * 1)).toList = (List.replicate n false).map Value.bool := by
    rw [Nat.mul_one, show (Value.bool false).cells = #[.bool false] from rfl, toList_madeCells_one, List.map_replicate]
  rw [hlen] at hown
  exact hK w' hown ((Below.refl _ _).grown hgrow (Nat.le_refl _) (fun k hk => by cases hk)) (hown.lt _ rfl).2
theorem own_ret {w wr : World} {v : Value} {n : Nat} {l : List Bool} {P : List Bool → Prop} (h : wr.ownsRow w.heap.size 4 1 v n (l.map Value.bool)) (hb : Below w.heap.size w wr) (hp : P l) : RetP P w (.returned v) wr := by
  obtain ⟨A, c, rfl, h1, h2, h3⟩ := own_open h
  exact ⟨l, A, c, hide hp, rfl, hide ⟨h1, h2⟩, hide h3, hb⟩
theorem power_any (n : Nat) (w : World) (hn : n ≤ 4096) : Calls Tryz.prog 184 #[.int .i64 n] w (RetP (fun l => nv l = 2 ^ n ∧ l.length = n + 1) w) := by
  go_enter Tryz.func184, Tryz.ntmps184
  go_wp2_with (first
    | (at_make; refine wpList_make_ow _ rfl _ _ rfl _ _ n rfl rfl rfl rfl hn ?_; intro w1 hr1 hb1 hz1; have HR := hide hr1; clear hr1)
    | (at_builtin; refine wpList_append_bv _ rfl _ _ rfl w.heap.size _ n (List.replicate n false) rfl (HR.out.alloc _) (some ⟨w1.heap.size, 0, none⟩) 1 1 [true] rfl rfl (one_rd _ _) (by simp; omega) (by simp; omega) ?_; intro v' w2 hown hb2))
  go_ret
  exact own_ret hown ((hb1.alloc (by omega) _).trans hb2) ⟨by rw [nv_append, nv_zeros]; simp [nv, nf, bt], by simp⟩
end
end Go.Proofs.YtbcpeagannjgpaaGreatDoor
