/-
  The contracts of the reference's plain functions of layer 3 and of the statements' helpers.
-/
import Derived.Test.YtkjiaflmaniplaaBvK
namespace Go.Proofs.Ytkjiaflmaniplaa
open Go.RowKit
set_option linter.unusedSimpArgs false
set_option linter.unusedVariables false

/-- What a call leaves that answers a new vector of which P holds. -/
def RetP (P : List Bool → Prop) (w : World) (e : Ending) (w' : World) : Prop :=
  ∃ l A c, Hid (P l) ∧ e = .returned (.slice A l.length c) ∧ Hid (l.length ≤ c ∧ c ≤ maxLen) ∧ Hid (Own w.heap.size w' A l) ∧ Below w.heap.size w w'
theorem RetP.of_mkV {l : List Bool} {w w' : World} {e : Ending} {P : List Bool → Prop} (hp : P l) (h : MkV l w e w') : RetP P w e w' := by
  obtain ⟨A, c, he, h1, h2, h3, h4⟩ := h
  exact ⟨l, A, c, hide hp, he, hide ⟨h1, h2⟩, hide h3, h4⟩
/-- What has been gathered so far: a slice of the call's own. -/
structure OwnL (w : World) (v : Value) (l : List Bool) (wr : World) : Prop where
  own : wr.ownsRow w.heap.size 4 1 v l.length (l.map Value.bool)
  bel : Below w.heap.size w wr
theorem OwnL.nil (w : World) : OwnL w (.slice none 0 0) [] w := ⟨own_nil w _, Below.refl _ _⟩
theorem OwnL.add {w wr w1 : World} {v' : Value} {l m : List Bool} {n k : Nat} (hb : Below w.heap.size w wr) (h : w1.ownsRow w.heap.size 4 1 v' (n + k) ((l ++ m).map Value.bool)) (hb1 : Below w.heap.size wr w1) : OwnL w v' (l ++ m) w1 := by
  have hl : n + k = (l ++ m).length := by have := h.1; simpa using this.symm
  rw [hl] at h
  exact ⟨h, hb.trans hb1⟩
theorem OwnL.done {w wr : World} {v : Value} {l : List Bool} {P : List Bool → Prop} (h : OwnL w v l wr) (hp : P l) : RetP P w (.returned v) wr := by
  obtain ⟨A, c, rfl, h1, h2, h3⟩ := own_open h.own
  exact ⟨l, A, c, hide hp, rfl, hide ⟨h1, h2⟩, hide h3, h.bel⟩
theorem bl_snoc (k : Nat) (f : Nat → Bool) : bl (k + 1) f = bl k f ++ [f k] := by unfold bl; rw [List.range_succ, List.map_append]; rfl
theorem one_rd (w : World) (x : Bool) : Rd (w.alloc (.cells #[.bool x] 4)) (some ⟨w.heap.size, 0, none⟩) [x] := fun _ => by
  refine ⟨_, rfl, by simp, fun i hi => ?_⟩
  obtain rfl : i = 0 := by simpa using hi
  rw [addr_add, cell_of_row _ _ _ _ _ _ (heap_alloc_new w _)]
  rfl

set_option maxHeartbeats 400000 in
theorem at_any (A : Option Addr) (l : List Bool) (c : Nat) (i : Nat) (w : World) (hl : l.length ≤ 4096) (hi : i ≤ 20000) (h : Rd w A l) :
    Calls Try.prog 71 #[.slice A l.length c, .int .i64 i] w fun e w' => e = .returned (.bool (bt l i)) ∧ w = w' := by
  by_cases hlt : i < l.length
  · obtain ⟨ad, rfl, hb, hc⟩ := h.at_ hlt
    clear h
    go_enter Try.func71, Try.ntmps71
    go_wp2
    go_ret
    exact ⟨rfl, rfl⟩
  · rw [bt_ge (by omega)]
    clear h
    go_enter Try.func71, Try.ntmps71
    go_wp2
    go_ret
    exact ⟨rfl, rfl⟩

set_option maxHeartbeats 400000 in
theorem rneg_any (A : Option Addr) (l : List Bool) (c : Nat) (w : World) (hl : l.length ≤ 4096) (h : Rd w A l) :
    Calls Try.prog 51 #[.slice A l.length c] w fun e w' => e = .returned (.bool (ng l)) ∧ w = w' := by
  by_cases hlt : 0 < l.length
  · obtain ⟨ad, rfl, hb, hc⟩ := h.at_ (i := l.length - 1) (by omega)
    clear h
    have e : ng l = bt l (l.length - 1) := by unfold ng; simp [hlt]
    rw [e]
    clear e
    obtain ⟨n, hn⟩ : ∃ n, l.length = n + 1 := ⟨l.length - 1, by omega⟩
    have hm : n ≤ 4096 := by omega
    rw [hn] at hc ⊢
    simp only [Nat.add_sub_cancel] at hc ⊢
    generalize bt l n = v at *
    clear hn hl hlt
    go_enter Try.func51, Try.ntmps51
    go_wp2
    go_ret
    exact ⟨rfl, rfl⟩
  · have e : ng l = false := by unfold ng; simp [hlt]
    have hz : l.length = 0 := by omega
    rw [e, hz]
    clear e h hl hlt hz
    go_enter Try.func51, Try.ntmps51
    go_wp2
    go_ret
    exact ⟨rfl, rfl⟩

set_option maxHeartbeats 1000000 in
theorem fit_any (A : Option Addr) (a : List Bool) (c n : Nat) (w : World) (ha : a.length ≤ 4096) (hn : n ≤ 4096) (hA : Rd w A a) :
    Calls Try.prog 50 #[.slice A a.length c, .int .i64 n] w (RetP (fun l => l = vz n (nv a)) w) := by
  have HA := hide hA
  clear hA
  go_enter Try.func50, Try.ntmps50
  go_wp2
  go_loopw [5, 6] (fun v i wr => ∃ k : Nat, k ≤ n ∧ i = .int .i64 k ∧ OwnL w v (bl k (bt a)) wr) (fun _ i _ => n - (intOf i).toNat)
  case atStart => exact ⟨0, Nat.zero_le _, rfl, OwnL.nil w⟩
  case round =>
    obtain ⟨k, hk, rfl, hR⟩ := hrel
    have hRH := hide hR
    clear hR
    by_cases hlt : k < n
    · have hat := hide (at_any A a c k wr ha (by omega) (HA.out.below hRH.out.bel))
      go_wp2_with (first
        | (go_at_call 71; (with_reducible refine (hat.out).mono ?_); rintro e w' ⟨rfl, rfl⟩)
        | (at_builtin; refine wpList_append_bv _ rfl _ _ rfl w.heap.size _ _ (bl k (bt a)) rfl (hRH.out.own.alloc _) (some ⟨wr.heap.size, 0, none⟩) 1 1 [bt a k] rfl rfl (one_rd _ _) (by rw [bl_length]; simp; omega) (by have := hRH.out.bel.size; simp; omega) ?_; intro v' w1 hown' hb'))
      go_roundw
      case rel => exact ⟨k + 1, by omega, by go_num, by rw [bl_snoc]; exact OwnL.add (hRH.out.bel.alloc hRH.out.bel.size _) hown' hb'⟩
      case measure => simp [intOf]; omega
    · have e : k = n := by omega
      subst e
      go_wp2
      go_ret
      exact hRH.out.done (bl_congr fun i hi => (zb_nv a i).symm)

set_option maxHeartbeats 1000000 in
theorem same_yes (A B : Option Addr) (a b : List Bool) (c d : Nat) (w : World) (ha : a.length ≤ 4096) (hA : Rd w A a) (hB : Rd w B b) (hab : a = b) :
    Calls Try.prog 20 #[.slice A a.length c, .slice B b.length d] w (Mk (.bool true) w) := by
  have HA := hide hA
  have HB := hide hB
  subst hab
  clear hA hB
  go_enter Try.func20, Try.ntmps20
  go_wp2
  go_loopw [5] (fun i wr => ∃ k : Nat, k ≤ a.length ∧ i = .int .i64 k ∧ ∃ n, wr = w.drewN n) (fun i _ => a.length - (intOf i).toNat)
  case atStart => exact ⟨0, Nat.zero_le _, rfl, 0, rfl⟩
  case round =>
    obtain ⟨k, hk, rfl, n, rfl⟩ := hrel
    by_cases hlt : k < a.length
    · obtain ⟨ad, rfl, hb, hc⟩ := HA.out.at_ hlt
      obtain ⟨bd, rfl, hb2, hc2⟩ := HB.out.at_ hlt
      go_wp2
      go_quiet (fail)
      go_wp2
      go_roundw
      case rel => exact ⟨k + 1, by omega, by go_num, _, rfl⟩
      case measure => simp [intOf]; omega
    · go_wp2
      go_ret
      exact ⟨rfl, below_drewN (Below.refl _ _) _⟩

def RetF (r : List Bool) (w : World) (e : Ending) (w' : World) : Prop := ∃ l A c, Hid (l = r) ∧ e = .returned (.tuple #[.slice A l.length c, .int .i64 0]) ∧ Hid (l.length ≤ c ∧ c ≤ maxLen) ∧ Hid (Own w.heap.size w' A l) ∧ Below w.heap.size w w'
theorem OwnL.doneF {w wr : World} {v : Value} {l r : List Bool} (h : OwnL w v l wr) (hp : l = r) : RetF r w (.returned (.tuple #[v, .int .i64 0])) wr := by
  obtain ⟨A, c, rfl, h1, h2, h3⟩ := own_open h.own
  exact ⟨l, A, c, hide hp, rfl, hide ⟨h1, h2⟩, hide h3, h.bel⟩
set_option maxHeartbeats 1000000 in
theorem rfrom_any (z : Int) (n : Nat) (w : World) (hn : n ≤ 128) (h1 : -9223372036854775808 ≤ z) (h2 : z ≤ 9223372036854775807) :
    Calls Try.prog 34 #[.int .i64 z, .int .i64 n] w (RetF (vz n z) w) := by
  go_enter Try.func34, Try.ntmps34
  go_wp2
  go_loopw [0, 6, 7] (fun x v i wr => ∃ k : Nat, k ≤ n ∧ i = .int .i64 k ∧ x = .int .i64 (z / 2 ^ k) ∧ OwnL w v (bl k (zb z)) wr) (fun _ _ i _ => n - (intOf i).toNat)
  case atStart => exact ⟨0, Nat.zero_le _, rfl, by simp, OwnL.nil w⟩
  case round =>
    obtain ⟨k, hk, rfl, rfl, hR⟩ := hrel
    have hRH := hide hR
    clear hR
    by_cases hlt : k < n
    · obtain ⟨y, hy⟩ : ∃ y, y = z / 2 ^ k := ⟨_, rfl⟩
      have hb1 : -9223372036854775808 ≤ y := by
        rw [hy]; have p := two_pos k
        by_cases hz : 0 ≤ z
        · have := Int.ediv_nonneg hz (Int.le_of_lt p); omega
        · have : -9223372036854775808 ≤ z := h1
          exact Int.le_ediv_of_mul_le p (by
            have : (-9223372036854775808 : Int) * 2 ^ k ≤ -9223372036854775808 * 1 := Int.mul_le_mul_of_nonpos_left (by decide) (by omega)
            omega)
      have hb2 : y ≤ 9223372036854775807 := by
        rw [hy]
        by_cases hz : 0 ≤ z
        · exact Int.le_trans (Int.ediv_le_self _ hz) h2
        · have p := two_pos k
          have : z / 2 ^ k < 0 := Int.ediv_neg_of_neg_of_pos (by omega) p
          omega
      have hbit : (bits BinOp.and IntKind.i64 y 1 == 1) = zb z k := by
        rw [and1, hy]; rfl
      have hnext : Hid (y / 2 = z / 2 ^ (k + 1)) := hide (by
        rw [hy, Int.ediv_ediv_of_nonneg (Int.le_of_lt (two_pos k)), Int.pow_succ])
      rw [← hy]
      have hbit' := hide hbit
      clear hy
      go_wp2_with (first
        | (at_builtin; refine wpList_append_bv _ rfl _ _ rfl w.heap.size _ _ (bl k (zb z)) rfl (hRH.out.own.alloc _) (some ⟨wr.heap.size, 0, none⟩) 1 1 [zb z k] rfl rfl (one_rd _ _) (by rw [bl_length]; simp; omega) (by have := hRH.out.bel.size; simp; omega) ?_; intro v' w1 hown' hb'))
      go_roundw
      case rel => exact ⟨k + 1, by omega, by go_num, by rw [hnext.out], by rw [bl_snoc]; exact OwnL.add (hRH.out.bel.alloc hRH.out.bel.size _) hown' hb'⟩
      case measure => simp [intOf]; omega
    · have e : k = n := by omega
      subst e
      go_wp2
      go_ret2
      exact hRH.out.doneF rfl

theorem of_any (z : Int) (n : Nat) (w : World) (hn : n ≤ 128) (h1 : -9223372036854775808 ≤ z) (h2 : z ≤ 9223372036854775807) :
    Calls Try.prog 48 #[.int .i64 z, .int .i64 n] w (RetP (· = vz n z) w) := by
  go_enter Try.func48, Try.ntmps48
  go_wp2_with fail
  refine (rfrom_any z n w hn h1 h2).mono ?_
  rintro e w1 ⟨l, A, c, hl, rfl, hc, ho, hb⟩
  go_wp2
  go_ret
  exact ⟨l, A, c, hl, rfl, hc, ho, hb⟩

theorem own_any (A : Option Addr) (a : List Bool) (c : Nat) (w : World) (ha : a.length ≤ 4096) (hA : Rd w A a) :
    Calls Try.prog 15 #[.slice A a.length c] w (RetP (· = a) w) := by
  have H := hide hA
  clear hA
  go_enter Try.func15, Try.ntmps15
  go_wp2_with (at_builtin; refine wpList_append_bv _ rfl _ _ rfl w.heap.size _ 0 [] rfl (own_empty _ _ (Nat.le_refl _)) A _ c a rfl rfl (H.out.below ((Below.refl _ _).alloc (Nat.le_refl _) _)) (by simp; omega) (by simp) ?_; intro v' w' hown hb)
  go_ret
  obtain ⟨A', c', rfl, h1, h2, h3⟩ := own_open hown
  exact ⟨[] ++ a, A', c', hide rfl, rfl, hide ⟨h1, h2⟩, hide h3, ((Below.refl _ _).alloc (Nat.le_refl _) _).trans hb⟩
end Go.Proofs.Ytkjiaflmaniplaa
