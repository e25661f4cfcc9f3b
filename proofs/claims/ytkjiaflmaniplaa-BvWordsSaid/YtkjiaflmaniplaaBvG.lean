/-
  The contracts of package bv's Shl, Mul, Contains and Pow.
-/
import Derived.Test.YtkjiaflmaniplaaBvF
namespace Go.Proofs.Ytkjiaflmaniplaa
open Go.RowKit
set_option linter.unusedSimpArgs false
set_option linter.unusedVariables false

theorem bool_size : (Try.prog.info? 4).map (·.size) = some 1 := by kernel_rfl
theorem splice_at {n m : Nat} {cs : List Value} {a : List Bool} {F : Nat → Bool} (hm : m ≤ n) (ha : a.length = n) (hF : ∀ i, i < n → cs[i]? = some (.bool (F i))) (i : Nat) (hi : i < n) :
    (splice cs m ((a.take (n - m)).map Value.bool))[i]? = some (.bool (if i < m then F i else bt a (i - m))) := by
  unfold splice
  have hlen : m ≤ cs.length := by
    rcases Nat.lt_or_ge i cs.length with h | h
    · rcases Nat.eq_zero_or_pos n with h0 | h0
      · omega
      · have := hF (n - 1) (by omega)
        rcases Nat.lt_or_ge (n - 1) cs.length with h1 | h1
        · omega
        · rw [List.getElem?_eq_none h1] at this; cases this
    · have := hF i hi; rw [List.getElem?_eq_none h] at this; cases this
  by_cases h : i < m
  · rw [List.getElem?_append_left (by simp; omega), List.getElem?_take, if_pos h, if_pos h]
    exact hF i hi
  · rw [List.getElem?_append_right (by simp; omega), if_neg h]
    have e : (List.take m cs).length = m := by simp; omega
    rw [e, List.getElem?_append_left (by simp; omega), List.getElem?_map, List.getElem?_take, if_pos (by omega), List.getElem?_eq_getElem (by omega), bt_get (by omega)]
    rfl

def ShlF (a : List Bool) (m : Nat) (i : Nat) : Bool := if i < m then false else bt a (i - m)
theorem row_open {w : World} {g n : Nat} {F : Nat → Bool} (h : RowF w g n F) : ∃ cs : List Value, Hid (w.heap[g]? = some (.cells cs.toArray 4 (0, 0))) ∧ Hid (∀ i, i < n → cs[i]? = some (.bool (F i))) ∧ n ≤ cs.length := by
  obtain ⟨cs, hg, hc⟩ := h
  refine ⟨cs.toList, hide hg, hide fun i hi => by rw [Array.getElem?_toList]; exact hc i hi, ?_⟩
  rcases Nat.eq_zero_or_pos n with h0 | h0
  · omega
  · have := hc (n - 1) (by omega)
    rcases Nat.lt_or_ge (n - 1) cs.size with h1 | h1
    · simp; omega
    · rw [Array.getElem?_eq_none h1] at this; cases this
theorem bools_one (l : List Bool) : ∀ v ∈ l.map Value.bool, v.oneCell' = true := by
  intro v hv
  simp only [List.mem_map] at hv
  obtain ⟨b, _, rfl⟩ := hv
  rfl
set_option maxHeartbeats 1000000 in
theorem shl_any (A : Option Addr) (a : List Bool) (c : Nat) (k : Int) (w : World) (ha : a.length ≤ 4096) (hA : Rd w A a) :
    Calls Try.prog 35 #[.slice A a.length c, .int .i64 k] w (MkV (vz a.length ((nv a : Int) * 2 ^ k.toNat)) w) := by
  rw [← shl_spec]
  have HA := hide hA
  clear hA
  obtain ⟨m, hm⟩ : ∃ m, m = min k.toNat a.length := ⟨_, rfl⟩
  have hm1 : m ≤ a.length := by omega
  rw [← hm]
  have hd : Hid (∀ w, Calls Try.prog 67 #[.slice A a.length c, .int .i64 k] w fun e w' => e = .returned (.int .i64 m) ∧ w = w') := hide (by rw [hm]; exact fun w => dist_any A a.length c k w ha)
  clear hm
  show Calls _ _ _ _ (MkV (bl a.length (ShlF a m)) w)
  by_cases hme : a.length = m
  · subst hme
    go_enter Try.func35, Try.ntmps35
    go_wp2_with (first
      | (go_at_call 67; (with_reducible refine (hd.out _).mono ?_); rintro e w' ⟨rfl, rfl⟩)
      | (at_make; refine wpList_make_bv _ rfl _ _ rfl _ _ a.length rfl rfl rfl rfl ha ?_; intro w1 hr1 hb1 hz1; obtain ⟨cs, hg, hcs, hlen⟩ := row_open hr1; clear hr1)
      | ((show wpList _ _ _ (⟨some 15, _, _, _, _, _⟩ :: _) _ _); refine wpList_copy_splice rfl (.tmp 13) (.tmp 14) 22 22 rfl 4 Try.underlying22 bool_size _ _ 0 0 a.length c rfl rfl w.heap.size 0 cs 4 hg.out [] (by simp) (by simp) (by simp) (by simp) w.heap.size w hb1 (Nat.le_refl _) ?_; intro w2 hg2 hb2))
    go_ret
    refine MkV.mk_row (F := ShlF a a.length) ?_ rfl (Nat.le_refl _) hb2 (Nat.le_refl _) (max_4096 ha)
    refine ⟨_, hg2.out, fun i hi => ?_⟩
    have h := hcs.out i hi
    unfold ShlF
    rw [if_pos hi]
    simpa [splice] using h
  · have hmlt : m < a.length := by omega
    obtain ⟨X, hX⟩ : ∃ X, X = (a.take (a.length - m)).map Value.bool := ⟨_, rfl⟩
    have HX := hide hX
    have hXl : X.length = a.length.min (a.length - m) := by rw [hX]; simp
    have hXm : m + X.length ≤ a.length := by rw [hXl]; have := Nat.min_le_right a.length (a.length - m); show m + min a.length (a.length - m) ≤ a.length; omega
    have HXl := hide hXl
    have hX1 : Hid (∀ v ∈ X, v.oneCell' = true) := hide (by rw [hX]; exact bools_one _)
    have hsrc : Hid (∀ w', Below w.heap.size w w' → 0 < X.length → ∃ ad, A = some ad ∧ ∀ j v, X[j]? = some v → w'.cell? (ad.add j) = some v) := hide (fun w' hb _ => by
      obtain ⟨ad, e, hlt, hc⟩ := HA.out (by omega)
      refine ⟨ad, e, fun j v hj => ?_⟩
      rw [hX, List.getElem?_map, List.getElem?_take] at hj
      split at hj
      · rename_i h1
        have h2 : j < a.length := by omega
        rw [List.getElem?_eq_getElem h2] at hj
        rw [hb.cell (p := ad.add j) (by rw [block_of_add]; exact hlt), hc j h2, bt_get h2]
        exact hj
      · cases hj)
    clear hX hXl
    have hme' : Hid (¬ a.length = m) := hide hme
    go_enter Try.func35, Try.ntmps35
    go_wp2_with (first
      | (go_at_call 67; (with_reducible refine (hd.out _).mono ?_); rintro e w' ⟨rfl, rfl⟩)
      | (at_make; refine wpList_make_bv _ rfl _ _ rfl _ _ a.length rfl rfl rfl rfl ha ?_; intro w1 hr1 hb1 hz1; obtain ⟨cs, hg, hcs, hlen⟩ := row_open hr1; clear hr1)
      | ((show wpList _ _ _ (⟨some 15, _, _, _, _, _⟩ :: _) _ _); refine wpList_copy_splice rfl (.tmp 13) (.tmp 14) 22 22 rfl 4 Try.underlying22 bool_size  (some ⟨w.heap.size, m, none⟩) A (a.length - m) (a.length - m) a.length c rfl rfl w.heap.size m cs 4 hg.out X HXl.out (fun h => ⟨rfl, hsrc.out _ hb1 h⟩) (Nat.le_trans hXm hlen) hX1.out w.heap.size w hb1 (Nat.le_refl _) ?_; intro w2 hg2 hb2))
    go_ret
    refine MkV.mk_row (F := ShlF a m) ?_ rfl (Nat.le_refl _) hb2 (Nat.le_refl _) (max_4096 ha)
    refine ⟨_, hg2.out, fun i hi => ?_⟩
    rw [HX.out]
    have h := splice_at hm1 rfl hcs.out i hi
    unfold ShlF
    split <;> simp_all
end Go.Proofs.Ytkjiaflmaniplaa
