/-
  Laws of make and append at slices of bool; the contracts of Clone, Add, Sub and Neg.
-/
import Derived.Test.YtkjiaflmaniplaaBvD
import Derived.Lib.SliceRun
namespace Go.Proofs.Ytkjiaflmaniplaa
open Go.RowKit
set_option linter.unusedSimpArgs false
set_option linter.unusedVariables false

theorem bool_info : (Try.prog.info? 4).map (fun i => (i.zero, i.size, i.bytes)) = some (some (.bool false), 1, 1) := by kernel_rfl

theorem row_of_own {w : World} {B g cap : Nat} {l : List Bool} (h : w.ownsRow B 4 1 (.slice (some ⟨g, 0, none⟩) l.length cap) l.length (l.map Value.bool)) : RowF w g l.length (bt l) := by
  rcases h.2 with ⟨h0, _⟩ | ⟨g', cap', cur, hv, hB, hg, hn, hc, hs, hx⟩
  · cases h0
  · injection hv with e1 e2 e3
    injection e1 with e1
    injection e1 with e1
    subst e1
    refine ⟨cur, hg, fun i hi => ?_⟩
    have h1 : (cur.toList.take (l.length * 1))[i]? = (l.map Value.bool)[i]? := by rw [hx]
    rw [List.getElem?_take, if_pos (by omega), Array.getElem?_toList] at h1
    rw [h1, List.getElem?_map, List.getElem?_eq_getElem hi, bt_get hi]
    rfl
/-- What is owned, opened: where the slice lies. -/
theorem own_open {w : World} {B n : Nat} {l : List Bool} {v : Value} (h : w.ownsRow B 4 1 v n (l.map Value.bool)) : ∃ A c, v = .slice A l.length c ∧ l.length ≤ c ∧ c ≤ maxLen ∧ Own B w A l := by
  have hl : n = l.length := by have := h.1; simpa using this.symm
  subst hl
  have h' := h
  rcases h.2 with ⟨h0, h1⟩ | ⟨g, cap, cur, hv, hB, hg, hn, hc, hs, hx⟩
  · exact ⟨none, 0, by rw [h0, h1], by omega, by simp [maxLen], fun h2 => by omega⟩
  · subst hv
    exact ⟨_, cap, rfl, hn, hc, fun _ => ⟨g, rfl, hB, row_of_own h'⟩⟩
theorem own_nil (w : World) (B : Nat) : w.ownsRow B 4 1 (.slice none 0 0) 0 (([] : List Bool).map Value.bool) := World.ownsRow_nil _ _ _ _
theorem own_empty (w : World) (B : Nat) (hB : B ≤ w.heap.size) : (w.alloc (.cells #[] 4)).ownsRow B 4 1 (.slice (some ⟨w.heap.size, 0, none⟩) 0 0) 0 (([] : List Bool).map Value.bool) :=
  World.ownsRow_made w #[] 0 hB (by simp [maxLen]) rfl

theorem wpList_make_bv (w : World) {ops : Array Oper} {rest : List Oper} {o : Oper} {a : Act} {Q : Exit → Act → World → Prop} (hg : o.guard = none) (x y : Operand) (hop : o.op = Op.makeSlice 22 x y)
    (L C : Int) (n : Nat) (hl : a.eval x = .int .i64 L) (hc : a.eval y = .int .i64 C) (hL : L = n) (hC : C = n) (hn : n ≤ 4096)
    (hK : ∀ w', RowF w' w.heap.size n (fun _ => false) → Below w.heap.size w w' → w.heap.size < w'.heap.size → wpList Try.prog ops Q rest (a.put o.dst (.slice (some ⟨w.heap.size, 0, none⟩) n n)) w') :
    wpList Try.prog ops Q (o :: rest) a w := by
  obtain ⟨i0, hi, hz0, hz1, hz2⟩ := info_parts bool_info
  refine wpList_make_full w hg x y 22 hop w.heap.size 4 i0 (.bool false) 1 Try.underlying22 hi hz0 hz1 .i64 .i64 L C n hl hc hL hC (by rw [hz2]; omega) (by simp only [maxLen]; omega) (Nat.le_refl _) ?_
  intro w' hown hgrow
  have hlen : (madeCells (Value.bool false).cells (n * 1)).toList = (List.replicate n false).map Value.bool := by
    rw [Nat.mul_one, show (Value.bool false).cells = #[.bool false] from rfl, toList_madeCells_one, List.map_replicate]
  rw [hlen] at hown
  have hlt := (hown.lt _ rfl).2
  have hr : RowF w' w.heap.size n (fun _ => false) := by
    have h1 : (List.replicate n false).length = n := by simp
    have h2 := row_of_own (l := List.replicate n false) (by rw [h1]; exact hown)
    rw [h1] at h2
    exact h2.congr fun i hi => by unfold bt; simp [hi]
  exact hK w' hr ((Below.refl _ _).grown hgrow (Nat.le_refl _) (fun k hk => by cases hk)) hlt

theorem run_append_null (w : World) (ty : TypeId) {B : Nat} {v : Value} {n : Nat} {xs : List Value} (hown : w.ownsRow B 4 1 v n xs) (c : Nat) :
    (Builtin.append_ #[22, 22] ty #[v, .slice none 0 c]).run Try.prog w = .ok v w := by
  obtain ⟨i0, hi, hz0, hz1, hz2⟩ := info_parts bool_info
  rcases hown.2 with ⟨rfl, rfl⟩ | ⟨g, cap, cur, rfl, _, _, hle, _⟩
  · simp [Builtin.append_, run_underlying Try.underlying22, sizeOf, typeInfo, hi, Builtin.lenOf, Builtin.firstCells]
  · simp [Builtin.append_, run_underlying Try.underlying22, sizeOf, typeInfo, hi, Builtin.lenOf, Builtin.firstCells, hle, storeCells]

theorem wpList_append_bv (w : World) {ops : Array Oper} {rest : List Oper} {o : Oper} {a : Act} {Q : Exit → Act → World → Prop} (hgd : o.guard = none) (s x : Operand)
    (ho : o.op = .call { callee := .builtin .append, args := #[s, x], argTypes := #[22, 22] })
    (B : Nat) (v : Value) (n : Nat) (xs : List Bool) (hs : a.eval s = v) (hown : w.ownsRow B 4 1 v n (xs.map Value.bool))
    (A : Option Addr) (m c : Nat) (news : List Bool) (hx : a.eval x = .slice A m c) (hm : m = news.length) (hr : Rd w A news) (hn : xs.length + news.length ≤ 16384) (hB : B ≤ w.heap.size)
    (hK : ∀ v' w', w'.ownsRow B 4 1 v' (n + m) ((xs ++ news).map Value.bool) → Below B w w' → wpList Try.prog ops Q rest (a.put o.dst v') w') : wpList Try.prog ops Q (o :: rest) a w := by
  obtain ⟨i0, hi, hz0, hz1, hz2⟩ := info_parts bool_info
  have hnl : n = xs.length := by have := hown.1; simpa using this.symm
  subst hm
  rcases A with _ | ad
  · have h0 : news = [] := by
      cases news with
      | nil => rfl
      | cons b l => obtain ⟨ad, e, _⟩ := hr (by simp); cases e
    subst h0
    refine wpList_plain hgd fun K hK' => ?_
    have hrun := run_append_null w o.type hown c
    unfold Oper.wp
    simp [execOp, ho, resolve, invoke, builtin, hs, hx, hrun, Result.andThen]
    exact hK' _ _ (hK v w (by simpa using hown) (Below.refl _ _))
  · refine wpList_append_own w hgd s x 22 ho B 4 i0 (.bool false) 1 1 Try.underlying22 hi hz0 hz1 hz2 rfl (by omega) v n (xs.map Value.bool) hs hown ad news.length c (news.map Value.bool) hx (by simp) ?_ ?_ (by simp only [maxLen]; omega) (by omega) hB ?_
    · intro j u hj
      rw [List.getElem?_map] at hj
      have hlt : j < news.length := by
        rcases Nat.lt_or_ge j news.length with h | h
        · exact h
        · rw [List.getElem?_eq_none h] at hj; cases hj
      obtain ⟨ad', e, _, hc⟩ := hr (by omega)
      injection e with e
      subst e
      rw [List.getElem?_eq_getElem hlt] at hj
      rw [hc j hlt, bt_get hlt]
      exact hj
    · intro u hu
      simp only [List.mem_map] at hu
      obtain ⟨b, _, rfl⟩ := hu
      rfl
    · intro v' w' hown' hgrow _
      exact hK v' w' (by rw [List.map_append]; exact hown') ((Below.refl _ _).grown hgrow hB fun k hk => (hown.lt k hk).1)

theorem eql_nil (w : World) (a : Option Addr) (n c n' c' : Nat) : (binOp .eql 22 (.slice a n c) (.slice none n' c')).run Try.prog w = .ok (.bool a.isNone) w := Lib.run_eql_slice_nil w _ _ a n c n' c' Try.underlying22
theorem clone_any (A : Option Addr) (l : List Bool) (c : Nat) (w : World) (hl : l.length ≤ 4096) (h : Rd w A l) :
    Calls Try.prog 53 #[.slice A l.length c] w (MkV l w) := by
  rcases A with _ | ad
  · have h0 : l = [] := by
      cases l with
      | nil => rfl
      | cons b l => obtain ⟨ad, e, _⟩ := h (by simp); cases e
    subst h0
    have q := eql_nil
    go_enter Try.func53, Try.ntmps53
    go_wp2
    go_ret
    exact ⟨none, 0, rfl, Nat.le_refl _, by simp [maxLen], fun h => absurd h (by simp), Below.refl _ _⟩
  · have H := hide h
    clear h
    have q := eql_nil
    go_enter Try.func53, Try.ntmps53
    go_wp2_with (at_builtin; refine wpList_append_bv _ rfl _ _ rfl w.heap.size _ 0 [] rfl (own_empty _ _ (Nat.le_refl _)) (some ad) _ c l rfl rfl (H.out.below ((Below.refl _ _).alloc (Nat.le_refl _) _)) (by simp; omega) (by simp) ?_; intro v' w' hown hb; obtain ⟨A', c', rfl, h1, h2, h3⟩ := own_open hown)
    go_ret
    exact ⟨A', c', rfl, h1, h2, h3, ((Below.refl _ _).alloc (Nat.le_refl _) _).trans hb⟩

theorem MkV.mk_row {l : List Bool} {w w' : World} {g n c : Nat} {F : Nat → Bool} (h : RowF w' g n F) (hl : l = bl n F) (hB : w.heap.size ≤ g) (hb : Below w.heap.size w w') (hn : n ≤ c) (hc : c ≤ maxLen) :
    MkV l w (.returned (.slice (some ⟨g, 0, none⟩) n c)) w' := by
  subst hl
  refine ⟨some ⟨g, 0, none⟩, c, by rw [bl_length], by rw [bl_length]; exact hn, hc, Own.of_row ?_ hB, hb⟩
  rw [bl_length]
  exact h.congr fun i hi => by rw [bt_bl_lt hi]
theorem max_4096 {n : Nat} (h : n ≤ 4096) : n ≤ maxLen := by simp only [maxLen]; omega

/-- Where nothing is to be added. -/
theorem addTo_nil (A : Option Addr) (c : Nat) (B : Option Addr) (m d : Nat) (w : World) :
    Calls Try.prog 54 #[.slice A 0 c, .slice B m d] w fun e w' => e = .returned (.tuple #[]) ∧ Below w.heap.size w w' := by
  go_enter Try.func54, Try.ntmps54
  go_wp2_with (go_at_call 55; (with_reducible refine (full_any _ _).mono ?_); rintro e w' ⟨rfl, rfl⟩)
  refine wp_loop_rounds 1 ?_
  rw [rounds_succ]
  go_wp2
  go_end0
  exact ⟨rfl, (Below.refl _ _).alloc (Nat.le_refl _) _⟩

theorem add_any (A B : Option Addr) (a b : List Bool) (c d : Nat) (w : World) (ha : a.length ≤ 4096) (hb : b.length ≤ 4096) (hA : Rd w A a) (hB : Rd w B b) :
    Calls Try.prog 16 #[.slice A a.length c, .slice B b.length d] w (MkV (vz a.length ((nv a : Int) + nv b)) w) := by
  have HA := hide hA
  have HB := hide hB
  clear hA hB
  rcases Nat.eq_zero_or_pos a.length with h0 | h0
  · obtain rfl : a = [] := List.eq_nil_of_length_eq_zero h0
    show Calls Try.prog 16 #[.slice A 0 c, .slice B b.length d] w (MkV [] w)
    clear h0
    go_enter Try.func16, Try.ntmps16
    go_wp2_with fail
    refine (clone_any A [] c w ha HA.out).mono ?_
    rintro e w1 ⟨A1, c1, rfl, h1, h2, h3, hb1⟩
    have H2 := hide h2
    have H1 := hide h1
    clear h1 h2 ha
    go_wp2_with fail
    refine (addTo_nil _ _ _ _ _ _).mono ?_
    rintro e w2 ⟨rfl, hb2⟩
    go_wp2
    go_ret
    exact ⟨A1, c1, rfl, Nat.zero_le _, H2.out, fun h => absurd h (by simp), hb1.trans (hb2.mono hb1.size)⟩
  · go_enter Try.func16, Try.ntmps16
    go_wp2_with fail
    refine (clone_any _ _ _ _ ha HA.out).mono ?_
    rintro e w1 ⟨A1, c1, rfl, h1, h2, h3, hb1⟩
    obtain ⟨g, rfl, hg, hr⟩ := h3 h0
    have H2 := hide h2
    have H1 := hide h1
    clear h1 h2
    go_wp2_with fail
    refine (addTo_any g a.length 0 a.length c1 (bt a) B b d w1 ha (by omega) hb hr ?_).mono ?_
    · intro hn
      obtain ⟨ad, e, hlt, hc⟩ := HB.out hn
      exact ⟨ad, e, by omega, fun i hi => (hb1.cell (p := ad.add i) (by rw [block_of_add]; exact hlt)).trans (hc i hi)⟩
    rintro e w2 ⟨rfl, hr2, hb2⟩
    have hf : RowF w2 g a.length (sb false (bt a) (bt b)) := hr2.congr fun i hi => by unfold Mid; rw [if_neg (by omega), if_pos (by omega)]; simp
    clear hr hr2
    go_wp2
    go_ret
    exact MkV.mk_row hf (add_spec a b).symm hg (hb1.trans (hb2.mono hg)) H1.out H2.out

def Par (k : Nat) (f : Nat → Bool) (j : Nat) : Bool := if j < k then f j else false
theorem Par.step (k : Nat) (f : Nat → Bool) (j : Nat) : (if j = k then f k else Par k f j) = Par (k + 1) f j := by
  unfold Par
  by_cases h : j = k
  · subst h; rw [if_pos rfl, if_pos (by omega)]
  · rw [if_neg h]
    by_cases h1 : j < k
    · rw [if_pos h1, if_pos (by omega)]
    · rw [if_neg h1, if_neg (by omega)]
/-- What a round of Sub leaves: the row, the carry. -/
structure SubR (w w1 : World) (n k : Nat) (f y : Nat → Bool) (wr : World) : Prop where
  row : RowF wr w.heap.size n (Par k (sb true f y))
  cry : Cry wr w1.heap.size (cy true f y k)
  bel : Below w.heap.size w wr
theorem SubR.step {w w1 wr : World} {n k : Nat} {f y : Nat → Bool} (h : SubR w w1 n k f y wr) (hg : w.heap.size < w1.heap.size) :
    SubR w w1 n (k + 1) f y ((wr.setCell ⟨w1.heap.size, 0, none⟩ (.bool ((f k && y k) || ((f k != y k) && cy true f y k)))).setCell ⟨w.heap.size, k, none⟩ (.bool (f k != (y k != cy true f y k)))).drew where
  row := (((h.row.far (p := ⟨w1.heap.size, 0, none⟩) (by simp; omega) _).set_ k _).congr fun j _ => Par.step k (sb true f y) j).drew
  cry := (h.cry.set_ _).far (by simp; omega) _
  bel := ((h.bel.setCell (by simp; omega) _).setCell (by simp) _).drew

set_option maxHeartbeats 2000000 in
theorem sub_any (A B : Option Addr) (a b : List Bool) (c d : Nat) (w : World) (ha : a.length ≤ 4096) (hb : b.length ≤ 4096) (hA : Rd w A a) (hB : Rd w B b) :
    Calls Try.prog 17 #[.slice A a.length c, .slice B b.length d] w (MkV (vz a.length ((nv a : Int) - nv b)) w) := by
  rw [← sub_spec]
  obtain ⟨y, hy⟩ : ∃ y : Nat → Bool, y = fun i => !bt b i := ⟨_, rfl⟩
  rw [← hy]
  have HY := hide hy
  have HA := hide hA
  have HB := hide hB
  clear hA hB hy
  go_enter Try.func17, Try.ntmps17
  go_wp2_with (first
    | (at_make; refine wpList_make_bv _ rfl _ _ rfl _ _ a.length rfl rfl rfl rfl ha ?_; intro w1 hr1 hb1 hz1)
    | (go_at_call 55; (with_reducible refine (full_any _ _).mono ?_); rintro e w' ⟨rfl, rfl⟩))
  go_loopw [14] (fun i wr => ∃ k : Nat, k ≤ a.length ∧ i = .int .i64 k ∧ SubR w w1 a.length k (bt a) y wr) (fun i _ => a.length - (intOf i).toNat)
  case atStart =>
    exact ⟨0, Nat.zero_le _, rfl, ⟨(hr1.alloc _).congr fun j _ => by simp [Par], Cry.new _ _, hb1.alloc (by omega) _⟩⟩
  case round =>
    obtain ⟨k, hk, rfl, hR⟩ := hrel
    clear hr1 hb1
    by_cases hlt : k < a.length
    · have hRH := hide hR
      have hcg : wr.cell? ⟨w.heap.size, k, none⟩ = some (.bool false) := by rw [hR.row.cell hlt]; simp [Par]
      have hf : wr.frozen? ⟨w.heap.size, k, none⟩ = false := hR.row.free _
      have hRdA := HA.out.below hR.bel
      have hRdB : Hid (Rd wr B b) := hide (HB.out.below hR.bel)
      have hcl : Hid (Cry wr w1.heap.size _) := hide hR.cry
      obtain ⟨ad, rfl, hlt1, hc0⟩ := HA.out.at_ hlt
      have hc : wr.cell? (ad.add k) = some (.bool (bt a k)) := (hR.bel.cell (p := ad.add k) (by rw [block_of_add]; exact hlt1)).trans hc0
      clear hR hRdA hc0
      go_wp2
      refine region_anyT (S := fun w1 => w1.cell? (ad.add k) = some (.bool (bt a k))) (n := 13) (by kernel_rfl) hc (fun hS inv => ?_)
      refine anyT_take (i := 0) (oi := _) (v := .slice (some ⟨w.heap.size, 0, none⟩) a.length a.length) rfl (by kernel_rfl) (by kernel_rfl) (by kernel_rfl) (by decide) (by decide) (by kernel_rfl) (by kernel_rfl) inv (fun _ _ _ h => h) (Or.inl ⟨by kernel_rfl, ?_⟩) hS (fun inv => ?_)
      · intro wz hSw
        go_simp
      (try simp only [Act.put, List.setIfInBounds_toArray, List.set_cons_zero, List.set_cons_succ])
      refine anyT_take (i := 1) (oi := _) (v := .int .i64 k) rfl (by kernel_rfl) (by kernel_rfl) (by kernel_rfl) (by decide) (by decide) (by kernel_rfl) (by kernel_rfl) inv (fun _ _ _ h => h) (Or.inl ⟨by kernel_rfl, ?_⟩) hS (fun inv => ?_)
      · intro wz hSw
        go_simp
      (try simp only [Act.put, List.setIfInBounds_toArray, List.set_cons_zero, List.set_cons_succ])
      refine anyT_take (i := 2) (oi := _) (v := .func (.func 72) #[] #[.pointer (some ⟨w1.heap.size, 0, none⟩)]) rfl (by kernel_rfl) (by kernel_rfl) (by kernel_rfl) (by decide) (by decide) (by kernel_rfl) (by kernel_rfl) inv (fun _ _ _ h => h) (Or.inl ⟨by kernel_rfl, ?_⟩) hS (fun inv => ?_)
      · intro wz hSw
        go_simp
      (try simp only [Act.put, List.setIfInBounds_toArray, List.set_cons_zero, List.set_cons_succ])
      refine anyT_take (i := 3) (oi := _) (v := .slice (some ad) a.length c) rfl (by kernel_rfl) (by kernel_rfl) (by kernel_rfl) (by decide) (by decide) (by kernel_rfl) (by kernel_rfl) inv (fun _ _ _ h => h) (Or.inl ⟨by kernel_rfl, ?_⟩) hS (fun inv => ?_)
      · intro wz hSw
        go_simp
      (try simp only [Act.put, List.setIfInBounds_toArray, List.set_cons_zero, List.set_cons_succ])
      refine anyT_take (i := 4) (oi := _) (v := .int .i64 k) rfl (by kernel_rfl) (by kernel_rfl) (by kernel_rfl) (by decide) (by decide) (by kernel_rfl) (by kernel_rfl) inv (fun _ _ _ h => h) (Or.inl ⟨by kernel_rfl, ?_⟩) hS (fun inv => ?_)
      · intro wz hSw
        go_simp
      (try simp only [Act.put, List.setIfInBounds_toArray, List.set_cons_zero, List.set_cons_succ])
      refine anyT_take (i := 5) (oi := _) (v := .pointer (some (ad.add k))) rfl (by kernel_rfl) (by kernel_rfl) (by kernel_rfl) (by decide) (by decide) (by kernel_rfl) (by kernel_rfl) inv (fun _ _ _ h => h) (Or.inl ⟨by kernel_rfl, ?_⟩) hS (fun inv => ?_)
      · intro wz hSw
        go_simp
      (try simp only [Act.put, List.setIfInBounds_toArray, List.set_cons_zero, List.set_cons_succ])
      refine anyT_take (i := 6) (oi := _) (v := .bool (bt a k)) rfl (by kernel_rfl) (by kernel_rfl) (by kernel_rfl) (by decide) (by decide) (by kernel_rfl) (by kernel_rfl) inv (fun _ _ _ h => h) (Or.inl ⟨by kernel_rfl, ?_⟩) hS (fun inv => ?_)
      · intro wz hSw
        have hSw : wz.cell? (ad.add k) = some (.bool (bt a k)) := hSw; go_simp
      (try simp only [Act.put, List.setIfInBounds_toArray, List.set_cons_zero, List.set_cons_succ])
      refine anyT_take (i := 7) (oi := _) (v := .slice B b.length d) rfl (by kernel_rfl) (by kernel_rfl) (by kernel_rfl) (by decide) (by decide) (by kernel_rfl) (by kernel_rfl) inv (fun _ _ _ h => h) (Or.inl ⟨by kernel_rfl, ?_⟩) hS (fun inv => ?_)
      · intro wz hSw
        go_simp
      (try simp only [Act.put, List.setIfInBounds_toArray, List.set_cons_zero, List.set_cons_succ])
      refine anyT_take (i := 8) (oi := _) (v := .int .i64 k) rfl (by kernel_rfl) (by kernel_rfl) (by kernel_rfl) (by decide) (by decide) (by kernel_rfl) (by kernel_rfl) inv (fun _ _ _ h => h) (Or.inl ⟨by kernel_rfl, ?_⟩) hS (fun inv => ?_)
      · intro wz hSw
        go_simp
      (try simp only [Act.put, List.setIfInBounds_toArray, List.set_cons_zero, List.set_cons_succ])
      refine anyT_ready (rs := [9]) (by kernel_rfl) (by simp) ?_
      refine ReadyT.head (o := _) rfl (by decide) (by kernel_rfl) inv (fun K hK => ?_) ReadyT.nil
      go_simp
      refine (ext_any B b d k false wr.drew hb (by omega) hRdB.out).mono ?_
      rintro e wz ⟨rfl, rfl⟩
      rw [ex_false]
      go_wp2_with fail
      refine hK.out _ _ ?_ (fun hS inv => ?_)
      · exact hc
      clear hK K
      (try simp only [Act.put, List.setIfInBounds_toArray, List.set_cons_zero, List.set_cons_succ])
      refine anyT_take (i := 10) (oi := _) (v := .bool (!bt b k)) rfl (by kernel_rfl) (by kernel_rfl) (by kernel_rfl) (by decide) (by decide) (by kernel_rfl) (by kernel_rfl) inv (fun _ _ _ h => h) (Or.inl ⟨by kernel_rfl, ?_⟩) hS (fun inv => ?_)
      · intro wz hSw
        go_simp
      (try simp only [Act.put, List.setIfInBounds_toArray, List.set_cons_zero, List.set_cons_succ])
      refine anyT_ready (rs := [11]) (by kernel_rfl) (by simp) ?_
      refine ReadyT.head (o := _) rfl (by decide) (by kernel_rfl) inv (fun K hK => ?_) ReadyT.nil
      go_simp
      have ey : (!bt b k) = y k := by rw [HY.out]
      rw [ey]
      refine (clo_any (bt a k) (y k) (cy true (bt a) y k) w1.heap.size wr.drew hcl.out).mono ?_
      rintro e wz ⟨rfl, rfl⟩
      clear ey
      go_wp2_with fail
      refine hK.out _ _ ?_ (fun hS inv => ?_)
      · show (wr.setCell _ _).cell? _ = _; rw [World.cell?_setCell_other _ _ _ _ (by intro h; have := congrArg Addr.block h; rw [block_of_add] at this; simp at this; omega)]; exact hc
      clear hK K
      (try simp only [Act.put, List.setIfInBounds_toArray, List.set_cons_zero, List.set_cons_succ])
      refine anyT_take (i := 12) (oi := _) (v := .pointer (some ⟨w.heap.size, k, none⟩)) rfl (by kernel_rfl) (by kernel_rfl) (by kernel_rfl) (by decide) (by decide) (by kernel_rfl) (by kernel_rfl) inv (fun _ _ _ h => h) (Or.inl ⟨by kernel_rfl, ?_⟩) hS (fun inv => ?_)
      · intro wz hSw
        go_simp
      (try simp only [Act.put, List.setIfInBounds_toArray, List.set_cons_zero, List.set_cons_succ])
      have hc2 : (wr.drew.setCell ⟨w1.heap.size, 0, none⟩ (.bool ((bt a k && y k) || ((bt a k != y k) && cy true (bt a) y k)))).cell? ⟨w.heap.size, k, none⟩ = some (.bool (Par k (sb true (bt a) y) k)) := (hRH.out.row.far (p := ⟨w1.heap.size, 0, none⟩) (by simp; omega) _).cell hlt
      have hf2 : (wr.drew.setCell ⟨w1.heap.size, 0, none⟩ (.bool ((bt a k && y k) || ((bt a k != y k) && cy true (bt a) y k)))).frozen? ⟨w.heap.size, k, none⟩ = false := (hRH.out.row.far (p := ⟨w1.heap.size, 0, none⟩) (by simp; omega) _).free _
      refine anyT_ready (rs := [13]) (by kernel_rfl) (by simp) ?_
      refine ReadyT.tail (o := _) rfl (by decide) (fun K hK => ?_)
      go_simp
      refine hK.out _ _ ?_
      clear hK K
      (try simp only [Act.put, List.setIfInBounds_toArray, List.set_cons_zero, List.set_cons_succ])
      refine anyT_done (by kernel_rfl) ?_ _
      go_wp2
      go_roundw
      case rel => exact ⟨k + 1, by omega, by go_num, hRH.out.step hz1⟩
      case measure => simp [intOf]; omega
    · have hRH := hide hR
      clear hR
      go_wp2
      go_ret
      have e : k = a.length := by omega
      subst e
      exact MkV.mk_row hRH.out.row (bl_congr fun i hi => by simp [Par, hi]) (Nat.le_refl _) hRH.out.bel (Nat.le_refl _) (max_4096 ha)

theorem neg2_any (A : Option Addr) (a : List Bool) (c : Nat) (w : World) (ha : a.length ≤ 4096) (hA : Rd w A a) :
    Calls Try.prog 18 #[.slice A a.length c] w (MkV (vz a.length (-(nv a : Int))) w) := by
  have HA := hide hA
  clear hA
  go_enter Try.func18, Try.ntmps18
  go_wp2_with (first
    | (at_make; refine wpList_make_bv _ rfl _ _ rfl _ _ a.length rfl rfl rfl rfl ha ?_; intro w1 hr1 hb1 hz1))
  have hl : (bl a.length fun _ => false).length = a.length := bl_length _ _
  have hn : nv (bl a.length fun _ => false) = 0 := by
    rw [nv_bl]; clear ha HA hr1 hl; generalize a.length = m; induction m with
    | zero => rfl
    | succ m ih => rw [nf_succ, ih]; simp
  have h := sub_any (some ⟨w.heap.size, 0, none⟩) A (bl a.length fun _ => false) a a.length c w1 (by rw [hl]; exact ha) ha
    (Own.rd (B := 0) (fun _ => ⟨_, rfl, Nat.zero_le _, by rw [hl]; exact hr1.congr fun i hi => (bt_bl_lt (f := fun _ => false) hi).symm⟩)) (HA.out.below hb1)
  rw [hl, hn, show ((0 : Nat) : Int) - (nv a : Int) = -(nv a : Int) from by omega] at h
  have H := hide h
  clear h hl hn hr1
  refine (H.out).mono ?_
  rintro e w2 ⟨A2, c2, rfl, h1, h2, h3, hb2⟩
  have H2 := hide h2
  have H1 := hide h1
  clear h1 h2 H
  go_wp2
  go_ret
  exact ⟨A2, c2, rfl, H1.out, H2.out, h3.base (by omega), hb1.trans (hb2.mono (by omega))⟩
end Go.Proofs.Ytkjiaflmaniplaa
