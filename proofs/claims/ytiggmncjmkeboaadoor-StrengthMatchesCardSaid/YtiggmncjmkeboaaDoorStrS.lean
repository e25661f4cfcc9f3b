/-
  The contract of the reference's combination of two normalized intervals.
-/
import Derived.Test.YtiggmncjmkeboaaDoorStrV
namespace Go.Proofs.YtiggmncjmkeboaaDoor
open Go.RowKit
set_option linter.unusedSimpArgs false

def fx (a c m n : Int) : Int := if m ≤ a ∧ n ≤ c then 7 else cLo a c
def fy (a d m : Int) : Int := if m ≤ a then -7 else cHi (m - 1) d
def gy (a c d m n : Int) : Int := if n ≤ c then fy a d m else max (fy a d m) (cHi m (n - 1))
/-- Behind i levels from p on. -/
def ix (x p : Int) (i : Nat) : Int := if i = 0 then x else min x p
def iy (y p : Int) (i : Nat) : Int := if i = 0 then y else max y (p + i - 1)
theorem ix_step (x p : Int) (i : Nat) : (if p + (i : Int) < ix x p i then p + (i : Int) else ix x p i) = ix x p (i + 1) := by
  unfold ix; (repeat' split) <;> omega
theorem iy_step (y p : Int) (i : Nat) : (if iy y p i < p + (i : Int) then p + (i : Int) else iy y p i) = iy y p (i + 1) := by
  unfold iy; (repeat' split) <;> omega
theorem fx_step {a c m n : Int} (h1 : a ≤ m) (h2 : c ≤ n) (b1 : -7 ≤ a) (b2 : a ≤ 7) (b3 : -7 ≤ c) (b4 : c ≤ 7) : min (fx a c m n) (cLo m n) = fx a c m (n + 1) := by
  have k := cLo_mono h1 h2
  have k2 := cLo_bd b1 b2 b3 b4
  unfold fx
  rw [if_neg (by omega : ¬ (m ≤ a ∧ n + 1 ≤ c))]
  split
  · obtain rfl : m = a := by omega
    obtain rfl : n = c := by omega
    omega
  · omega
theorem gy_step {a c d m n : Int} (h2 : c ≤ n) : max (gy a c d m n) (cHi m n) = gy a c d m (n + 1) := by
  have k : cHi m (n - 1) ≤ cHi m n := cHi_mono (Int.le_refl _) (by omega)
  unfold gy
  rw [if_neg (by omega : ¬ n + 1 ≤ c), show n + 1 - 1 = n by omega]
  split
  · rfl
  · omega
theorem fx_row {a c d m : Int} (h1 : a ≤ m) (h2 : c ≤ d) : fx a c m (d + 1) = fx a c (m + 1) c := by
  unfold fx; rw [if_neg (by omega), if_neg (by omega)]
theorem gy_row {a c d m : Int} (h1 : a ≤ m) (h2 : c ≤ d) (b1 : -7 ≤ m) (b2 : m ≤ 7) (b3 : -7 ≤ d) (b4 : d ≤ 7) : gy a c d m (d + 1) = fy a d (m + 1) := by
  have k : cHi (m - 1) d ≤ cHi m d := cHi_mono (by omega) (Int.le_refl _)
  have k2 := cHi_bd b1 b2 b3 b4
  unfold gy fy
  rw [if_neg (by omega), if_neg (by omega : ¬ m + 1 ≤ a), show m + 1 - 1 = m by omega, show d + 1 - 1 = d by omega]
  split <;> omega

/-- The world inside the loops. -/
structure TwoW (a b c d : Int) (w wr : World) (x y : Int) : Prop where
  bel : Below w.heap.size w wr
  b2 : wr.heap[w.heap.size]? = some (.cells #[.int .i8 a, .int .i8 b] 28 (0, 0))
  b3 : wr.heap[w.heap.size + 1]? = some (.cells #[.int .i8 c, .int .i8 d] 28 (0, 0))
  b4 : wr.heap[w.heap.size + 2]? = some (.cells #[.int .i8 0, .int .i8 0] 28 (0, 0))
  b5 : wr.heap[w.heap.size + 3]? = some (.cells #[.int .i8 x, .int .i8 y] 28 (0, 0))
theorem TwoW.to {a b c d : Int} {w wr : World} {x y u v : Int} (h : TwoW a b c d w wr x y) (hx : x = u) (hy : y = v) : TwoW a b c d w wr u v := by subst hx hy; exact h
theorem TwoW.below {a b c d : Int} {w wr w2 : World} {x y : Int} (h : TwoW a b c d w wr x y) (hb : Below wr.heap.size wr w2) : TwoW a b c d w w2 x y :=
  ⟨h.bel.trans (hb.mono h.bel.size), blk_keep h.b2 hb, blk_keep h.b3 hb, blk_keep h.b4 hb, blk_keep h.b5 hb⟩
theorem TwoW.set {a b c d : Int} {w wr : World} {x y u v : Int} (h : TwoW a b c d w wr x y) : TwoW a b c d w ((wr.setCell ⟨w.heap.size + 3, 0, none⟩ (.int .i8 u)).setCell ⟨w.heap.size + 3, 1, none⟩ (.int .i8 v)) u v :=
  ⟨(h.bel.setCell (by simp) _).setCell (by simp) _, blk_far (blk_far h.b2 (by simp)) (by simp), blk_far (blk_far h.b3 (by simp)) (by simp), blk_far (blk_far h.b4 (by simp)) (by simp), blk2_set h.b5⟩
theorem cell_far2 {w : World} {g j B : Nat} {z : Value} (h : w.cell? ⟨g, j, none⟩ = some z) (hne : B ≠ g) (u v : Value) : ((w.setCell ⟨B, 0, none⟩ u).setCell ⟨B, 1, none⟩ v).cell? ⟨g, j, none⟩ = some z := by
  rw [World.cell?_setCell_far _ _ _ _ hne, World.cell?_setCell_far _ _ _ _ hne]; exact h
theorem two_start (a b c d : Int) (w : World) (t : TypeId) : ((((w.alloc (.cells #[.int .i8 a, .int .i8 b] t)).alloc (.cells #[.int .i8 c, .int .i8 d] t)).alloc (.cells #[.int .i8 0, .int .i8 0] t)).alloc (.cells #[.int .i8 7, .int .i8 (-7)] t)).heap[w.heap.size]? = some (.cells #[.int .i8 a, .int .i8 b] t (0, 0)) ∧
    ((((w.alloc (.cells #[.int .i8 a, .int .i8 b] t)).alloc (.cells #[.int .i8 c, .int .i8 d] t)).alloc (.cells #[.int .i8 0, .int .i8 0] t)).alloc (.cells #[.int .i8 7, .int .i8 (-7)] t)).heap[w.heap.size + 1]? = some (.cells #[.int .i8 c, .int .i8 d] t (0, 0)) ∧
    ((((w.alloc (.cells #[.int .i8 a, .int .i8 b] t)).alloc (.cells #[.int .i8 c, .int .i8 d] t)).alloc (.cells #[.int .i8 0, .int .i8 0] t)).alloc (.cells #[.int .i8 7, .int .i8 (-7)] t)).heap[w.heap.size + 2]? = some (.cells #[.int .i8 0, .int .i8 0] t (0, 0)) ∧
    ((((w.alloc (.cells #[.int .i8 a, .int .i8 b] t)).alloc (.cells #[.int .i8 c, .int .i8 d] t)).alloc (.cells #[.int .i8 0, .int .i8 0] t)).alloc (.cells #[.int .i8 7, .int .i8 (-7)] t)).heap[w.heap.size + 3]? = some (.cells #[.int .i8 7, .int .i8 (-7)] t (0, 0)) := by
  refine ⟨blk_alloc (blk_alloc (blk_alloc (blk_new _ _))), ?_, ?_, ?_⟩
  · have h := blk_new (w.alloc (.cells #[.int .i8 a, .int .i8 b] t)) (.cells #[.int .i8 c, .int .i8 d] t)
    rw [show (w.alloc (.cells #[.int .i8 a, .int .i8 b] t)).heap.size = w.heap.size + 1 by simp] at h
    exact blk_alloc (blk_alloc h)
  · have h := blk_new ((w.alloc (.cells #[.int .i8 a, .int .i8 b] t)).alloc (.cells #[.int .i8 c, .int .i8 d] t)) (.cells #[.int .i8 0, .int .i8 0] t)
    rw [show ((w.alloc (.cells #[.int .i8 a, .int .i8 b] t)).alloc (.cells #[.int .i8 c, .int .i8 d] t)).heap.size = w.heap.size + 2 by simp] at h
    exact blk_alloc h
  · have h := blk_new (((w.alloc (.cells #[.int .i8 a, .int .i8 b] t)).alloc (.cells #[.int .i8 c, .int .i8 d] t)).alloc (.cells #[.int .i8 0, .int .i8 0] t)) (.cells #[.int .i8 7, .int .i8 (-7)] t)
    rwa [show (((w.alloc (.cells #[.int .i8 a, .int .i8 b] t)).alloc (.cells #[.int .i8 c, .int .i8 d] t)).alloc (.cells #[.int .i8 0, .int .i8 0] t)).heap.size = w.heap.size + 3 by simp] at h

set_option maxHeartbeats 4000000 in
theorem rtwo_any (a b c d : Int) (w : World) (h1 : -7 ≤ a) (h2 : a ≤ b) (h3 : b ≤ 7) (h4 : -7 ≤ c) (h5 : c ≤ d) (h6 : d ≤ 7) :
    Calls Tryd.prog 37 #[iv a b, iv c d] w (Mk (iv (cLo a c) (cHi b d)) w) := by
  go_enter Tryd.func37, Tryd.ntmps37
  go_wp2
  go_loopw [6] (fun i wr => ∃ m : Int, a ≤ m ∧ m ≤ b + 1 ∧ i = .int .i8 m ∧ TwoW a b c d w wr (fx a c m c) (fy a d m)) (fun i _ => (b + 1 - intOf i).toNat)
  case atStart =>
    obtain ⟨s1, s2, s3, s4⟩ := two_start a b c d w 28
    exact ⟨a, by omega, by omega, rfl, TwoW.to ⟨by (repeat (first | exact Below.refl _ _ | assumption | refine Below.setCell ?_ (by first | (simp; done) | (simp; omega) | omega) _ | refine Below.alloc ?_ (by first | (simp; done) | (simp; omega) | omega) _ | refine below_drewN ?_ _ | refine Below.drew ?_)), s1, s2, s3, s4⟩ (by unfold fx; rw [if_pos (by omega)]) (by unfold fy; rw [if_pos (by omega)])⟩
  case round =>
    obtain ⟨m, hm1, hm2, rfl, E⟩ := hrel
    obtain ⟨x1, x2, -, -, x5⟩ := blk2 E.b2
    obtain ⟨y1, y2, -, -, y5⟩ := blk2 E.b3
    by_cases hlt : m ≤ b
    · have HE := hide E
      clear E
      go_wp2
      obtain ⟨wo, hwo⟩ : ∃ wo : World, wo = wr := ⟨_, rfl⟩
      rw [← hwo]
      rw [← hwo] at HE
      clear x1 x2 x5 y1 y2 y5 hwo
      go_loopw [7] (fun i wr => ∃ n : Int, c ≤ n ∧ n ≤ d + 1 ∧ i = .int .i8 n ∧ TwoW a b c d w wr (fx a c m n) (gy a c d m n)) (fun i _ => (d + 1 - intOf i).toNat)
      case atStart => exact ⟨c, by omega, by omega, rfl, TwoW.to HE.out rfl (by unfold gy; rw [if_pos (by omega)])⟩
      case round =>
        clear HE
        obtain ⟨n, hn1, hn2, rfl, E⟩ := hrel
        obtain ⟨y1, y2, -, -, y5⟩ := blk2 E.b3
        by_cases hly : n ≤ d
        · have HE := hide E
          clear E
          go_wp2_with ((go_at_call 32; (with_reducible refine (rlevels_any _ _ _ (by omega) (by omega) (by omega) (by omega)).mono ?_); rintro e wz ⟨g, cap, cnt, rfl, hcnt, hb, hg, hg0, hcells⟩))
          have HE2 := hide (HE.out.below hb)
          have hgs : w.heap.size + 3 < g := Nat.lt_of_lt_of_le (blk2 HE.out.b5).2.2.2.2 hg0
          have HC := hide hcells
          clear hcells hb HE y1 y2 y5
          obtain ⟨p, hp⟩ : ∃ p, p = cLo m n := ⟨_, rfl⟩
          obtain ⟨q, hq⟩ : ∃ q, q = cHi m n := ⟨_, rfl⟩
          have pb := cLo_bd (a := m) (b := n) (by omega) (by omega) (by omega) (by omega)
          have qb := cHi_bd (a := m) (b := n) (by omega) (by omega) (by omega) (by omega)
          have pq := cLo_le m n
          rw [← hp, ← hq] at hcnt
          rw [← hp] at pb pq
          rw [← hq] at qb pq
          rw [← hp] at HC
          have Hp := Lib.hid hp
          have Hq := Lib.hid hq
          clear hp hq
          go_loopw [9] (fun v wr => ∃ i : Nat, i ≤ cnt ∧ v = .int .i64 i ∧ TwoW a b c d w wr (ix (fx a c m n) p i) (iy (gy a c d m n) p i) ∧ ∀ j : Nat, j < cnt → wr.cell? ⟨g, j, none⟩ = some (.int .i8 (p + j))) (fun v _ => cnt - (intOf v).toNat)
          case atStart => exact ⟨0, by omega, rfl, TwoW.to HE2.out (by simp [ix]) (by simp [iy]), HC.out⟩
          case round =>
            clear HE2 HC
            obtain ⟨i, hi, rfl, E, hcl⟩ := hrel
            obtain ⟨o1, o2, o3, o4, o5⟩ := blk2 E.b5
            have HE := hide E
            have HC := hide hcl
            clear E
            by_cases hli : i < cnt
            · have hci := hcl i hli
              have hgl : g < wr.heap.size := World.block_lt_of_cell? wr _ hci
              clear hcl
              go_wp2
              have sx := Lib.hid (ix_step (fx a c m n) p i)
              have sy := Lib.hid (iy_step (gy a c d m n) p i)
              generalize ix (fx a c m n) p i = x at *
              generalize iy (gy a c d m n) p i = y at *
              have hi0 : (0 : Int) ≤ (i : Int) := by omega
              have hi1 : (i : Int) < (cnt : Int) := by omega
              refine region_anyT (S := fun w1 => Below wr.heap.size wr w1) (n := 15) (by kernel_rfl) (Below.refl _ _).drew (fun hS inv => ?_)
              refine anyT_take (i := 0) (oi := _) (v := .pointer (some ⟨w.heap.size + 3, 0, none⟩)) rfl (by kernel_rfl) (by kernel_rfl) (by kernel_rfl) (by decide) (by decide) (by kernel_rfl) (by kernel_rfl) inv (fun _ _ _ h => h) (Or.inl ⟨by rfl, ?_⟩) hS (fun inv => ?_)
              · intro wz hSw
                go_simp
              (try simp only [Act.put, List.setIfInBounds_toArray, List.set_cons_zero, List.set_cons_succ])
              refine anyT_take (i := 1) (oi := _) (v := .int .i8 (x)) rfl (by kernel_rfl) (by kernel_rfl) (by kernel_rfl) (by decide) (by decide) (by kernel_rfl) (by kernel_rfl) inv (fun _ _ _ h => h) (Or.inl ⟨by rfl, ?_⟩) hS (fun inv => ?_)
              · intro wz hSw
                have hk1 := (hSw : Below _ _ _).cell (p := ⟨w.heap.size + 3, 0, none⟩) (by assumption); go_simp
              (try simp only [Act.put, List.setIfInBounds_toArray, List.set_cons_zero, List.set_cons_succ])
              refine anyT_take (i := 2) (oi := _) (v := .slice (some ⟨g, 0, none⟩) cnt cap) rfl (by kernel_rfl) (by kernel_rfl) (by kernel_rfl) (by decide) (by decide) (by kernel_rfl) (by kernel_rfl) inv (fun _ _ _ h => h) (Or.inl ⟨by rfl, ?_⟩) hS (fun inv => ?_)
              · intro wz hSw
                go_simp
              (try simp only [Act.put, List.setIfInBounds_toArray, List.set_cons_zero, List.set_cons_succ])
              refine anyT_take (i := 3) (oi := _) (v := .int .i64 i) rfl (by kernel_rfl) (by kernel_rfl) (by kernel_rfl) (by decide) (by decide) (by kernel_rfl) (by kernel_rfl) inv (fun _ _ _ h => h) (Or.inl ⟨by rfl, ?_⟩) hS (fun inv => ?_)
              · intro wz hSw
                go_simp
              (try simp only [Act.put, List.setIfInBounds_toArray, List.set_cons_zero, List.set_cons_succ])
              refine anyT_take (i := 4) (oi := _) (v := .pointer (some ⟨g, i, none⟩)) rfl (by kernel_rfl) (by kernel_rfl) (by kernel_rfl) (by decide) (by decide) (by kernel_rfl) (by kernel_rfl) inv (fun _ _ _ h => h) (Or.inl ⟨by rfl, ?_⟩) hS (fun inv => ?_)
              · intro wz hSw
                go_simp
              (try simp only [Act.put, List.setIfInBounds_toArray, List.set_cons_zero, List.set_cons_succ])
              refine anyT_take (i := 5) (oi := _) (v := .int .i8 (p + i)) rfl (by kernel_rfl) (by kernel_rfl) (by kernel_rfl) (by decide) (by decide) (by kernel_rfl) (by kernel_rfl) inv (fun _ _ _ h => h) (Or.inl ⟨by rfl, ?_⟩) hS (fun inv => ?_)
              · intro wz hSw
                have hk1 := (hSw : Below _ _ _).cell (p := ⟨g, i, none⟩) (by assumption); go_simp
              (try simp only [Act.put, List.setIfInBounds_toArray, List.set_cons_zero, List.set_cons_succ])
              refine anyT_take (i := 6) (oi := _) (v := .int .i8 (if p + i < x then p + i else x)) rfl (by kernel_rfl) (by kernel_rfl) (by kernel_rfl) (by decide) (by decide) (by kernel_rfl) (by kernel_rfl) inv (fun _ _ _ h => h) (Or.inl ⟨by rfl, ?_⟩) hS (fun inv => ?_)
              · intro wz hSw
                go_simp
              (try simp only [Act.put, List.setIfInBounds_toArray, List.set_cons_zero, List.set_cons_succ])
              refine anyT_take (i := 7) (oi := _) (v := .pointer (some ⟨w.heap.size + 3, 1, none⟩)) rfl (by kernel_rfl) (by kernel_rfl) (by kernel_rfl) (by decide) (by decide) (by kernel_rfl) (by kernel_rfl) inv (fun _ _ _ h => h) (Or.inl ⟨by rfl, ?_⟩) hS (fun inv => ?_)
              · intro wz hSw
                go_simp
              (try simp only [Act.put, List.setIfInBounds_toArray, List.set_cons_zero, List.set_cons_succ])
              refine anyT_take (i := 8) (oi := _) (v := .int .i8 (y)) rfl (by kernel_rfl) (by kernel_rfl) (by kernel_rfl) (by decide) (by decide) (by kernel_rfl) (by kernel_rfl) inv (fun _ _ _ h => h) (Or.inl ⟨by rfl, ?_⟩) hS (fun inv => ?_)
              · intro wz hSw
                have hk1 := (hSw : Below _ _ _).cell (p := ⟨w.heap.size + 3, 1, none⟩) (by assumption); go_simp
              (try simp only [Act.put, List.setIfInBounds_toArray, List.set_cons_zero, List.set_cons_succ])
              refine anyT_take (i := 9) (oi := _) (v := .slice (some ⟨g, 0, none⟩) cnt cap) rfl (by kernel_rfl) (by kernel_rfl) (by kernel_rfl) (by decide) (by decide) (by kernel_rfl) (by kernel_rfl) inv (fun _ _ _ h => h) (Or.inl ⟨by rfl, ?_⟩) hS (fun inv => ?_)
              · intro wz hSw
                go_simp
              (try simp only [Act.put, List.setIfInBounds_toArray, List.set_cons_zero, List.set_cons_succ])
              refine anyT_take (i := 10) (oi := _) (v := .int .i64 i) rfl (by kernel_rfl) (by kernel_rfl) (by kernel_rfl) (by decide) (by decide) (by kernel_rfl) (by kernel_rfl) inv (fun _ _ _ h => h) (Or.inl ⟨by rfl, ?_⟩) hS (fun inv => ?_)
              · intro wz hSw
                go_simp
              (try simp only [Act.put, List.setIfInBounds_toArray, List.set_cons_zero, List.set_cons_succ])
              refine anyT_take (i := 11) (oi := _) (v := .pointer (some ⟨g, i, none⟩)) rfl (by kernel_rfl) (by kernel_rfl) (by kernel_rfl) (by decide) (by decide) (by kernel_rfl) (by kernel_rfl) inv (fun _ _ _ h => h) (Or.inl ⟨by rfl, ?_⟩) hS (fun inv => ?_)
              · intro wz hSw
                go_simp
              (try simp only [Act.put, List.setIfInBounds_toArray, List.set_cons_zero, List.set_cons_succ])
              refine anyT_take (i := 12) (oi := _) (v := .int .i8 (p + i)) rfl (by kernel_rfl) (by kernel_rfl) (by kernel_rfl) (by decide) (by decide) (by kernel_rfl) (by kernel_rfl) inv (fun _ _ _ h => h) (Or.inl ⟨by rfl, ?_⟩) hS (fun inv => ?_)
              · intro wz hSw
                have hk1 := (hSw : Below _ _ _).cell (p := ⟨g, i, none⟩) (by assumption); go_simp
              (try simp only [Act.put, List.setIfInBounds_toArray, List.set_cons_zero, List.set_cons_succ])
              refine anyT_take (i := 13) (oi := _) (v := .int .i8 (if y < p + i then p + i else y)) rfl (by kernel_rfl) (by kernel_rfl) (by kernel_rfl) (by decide) (by decide) (by kernel_rfl) (by kernel_rfl) inv (fun _ _ _ h => h) (Or.inl ⟨by rfl, ?_⟩) hS (fun inv => ?_)
              · intro wz hSw
                go_simp
              (try simp only [Act.put, List.setIfInBounds_toArray, List.set_cons_zero, List.set_cons_succ])
              refine anyT_take (i := 14) (oi := _) (v := iv (if p + i < x then p + i else x) (if y < p + i then p + i else y)) rfl (by kernel_rfl) (by kernel_rfl) (by kernel_rfl) (by decide) (by decide) (by kernel_rfl) (by kernel_rfl) inv (fun _ _ _ h => h) (Or.inl ⟨by rfl, ?_⟩) hS (fun inv => ?_)
              · intro wz hSw
                go_simp
              (try simp only [Act.put, List.setIfInBounds_toArray, List.set_cons_zero, List.set_cons_succ])
              have c1 := (hS : Below _ _ _).cell (p := ⟨w.heap.size + 3, 0, none⟩) (by assumption)
              have c2 := (hS : Below _ _ _).cell (p := ⟨w.heap.size + 3, 1, none⟩) (by assumption)
              have c3 := (hS : Below _ _ _).frozen (p := ⟨w.heap.size + 3, 0, none⟩) (by assumption)
              have c4 := (hS : Below _ _ _).frozen (p := ⟨w.heap.size + 3, 1, none⟩) (by assumption)
              refine anyT_ready (rs := [15]) (by kernel_rfl) (by simp) ?_
              refine ReadyT.tail (o := _) rfl (by decide) (fun K hK => ?_)
              go_simp
              refine hK.out _ _ ?_
              clear hK K
              (try simp only [Act.put, List.setIfInBounds_toArray, List.set_cons_zero, List.set_cons_succ])
              refine anyT_done (by kernel_rfl) ?_ _
              go_wp2
              go_roundw
              case rel => exact ⟨i + 1, by omega, by go_num, TwoW.to (TwoW.set (HE.out.below hS)) sx.out sy.out, fun j hj => cell_far2 (B := w.heap.size + 3) (HC.out j hj) (by omega) _ _⟩
              case measure => simp [intOf]; omega
            · have hie : i = cnt := by omega
              have e1 : ix (fx a c m n) p i = fx a c m (n + 1) := by
                rw [← fx_step hm1 hn1 h1 (by omega) h4 (by omega), ← Hp.out]; unfold ix; rw [if_neg (by omega)]
              have e2 : iy (gy a c d m n) p i = gy a c d m (n + 1) := by
                rw [← gy_step hn1, ← Hq.out]; unfold iy; rw [if_neg (by omega)]; congr 1; omega
              have HE2 := hide (HE.out.to e1 e2)
              clear e1 e2 HE hie hcl HC
              go_wp2
              go_roundw
              case rel => exact ⟨n + 1, by omega, by omega, by go_num, HE2.out⟩
              case measure => simp [intOf]; omega
        · obtain rfl : n = d + 1 := by omega
          have HE2 := hide (E.to (fx_row hm1 h5) (gy_row hm1 h5 (by omega) (by omega) (by omega) (by omega)))
          clear E
          go_wp2
          go_roundw
          case rel => exact ⟨m + 1, by omega, by omega, by go_num, HE2.out⟩
          case measure => simp [intOf]; omega
    · obtain rfl : m = b + 1 := by omega
      have e1 : fx a c (b + 1) c = cLo a c := by unfold fx; rw [if_neg (by omega)]
      have e2 : fy a d (b + 1) = cHi b d := by unfold fy; rw [if_neg (by omega), show b + 1 - 1 = b by omega]
      have E2 := E.to e1 e2
      obtain ⟨o1, o2, o3, o4, o5⟩ := blk2 E2.b5
      obtain ⟨r1, r2, r3, r4, r5⟩ := blk2 E2.b4
      have hB := E2.bel
      have hs := hB.size
      clear e1 e2 E E2
      go_wp2
      exact bodyPost_ret (v := iv (cLo a c) (cHi b d)) (by simp [results, Tryd.results37, go_sem, *]) rfl ⟨rfl, by (repeat (first | exact Below.refl _ _ | assumption | refine Below.setCell ?_ (by first | (simp; done) | (simp; omega) | omega) _ | refine Below.alloc ?_ (by first | (simp; done) | (simp; omega) | omega) _ | refine below_drewN ?_ _ | refine Below.drew ?_))⟩

end Go.Proofs.YtiggmncjmkeboaaDoor
