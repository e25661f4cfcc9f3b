/-
  The contracts of the reference's Combine and of the two conversions of a slice of intervals.
-/
import Derived.Test.YtiggmncjmkeboaaDoorStrS
namespace Go.Proofs.YtiggmncjmkeboaaDoor
open Go.RowKit
set_option linter.unusedSimpArgs false

set_option maxHeartbeats 2000000 in
theorem rcombine_any (l : List (Int × Int)) (b off cap : Nat) (w : World) (hm : l.length ≤ 4611686018427387904) (hl : Ivs w b off l) :
    Calls Tryd.prog 16 #[.slice (some ⟨b, off, none⟩) l.length cap] w (Mk (iv (cmbL l 0) (cmbH l 0)) w) := by
  have HL := hide hl
  clear hl
  go_enter Tryd.func16, Tryd.ntmps16
  go_wp2
  go_loopw [4] (fun i wr => ∃ k : Nat, k ≤ l.length ∧ i = .int .i64 k ∧ CmbW 28 w wr (cmbL (l.take k) 0) (cmbH (l.take k) 0)) (fun i _ => l.length - (intOf i).toNat)
  case atStart => exact ⟨0, by omega, rfl, ⟨by (repeat (first | exact Below.refl _ _ | assumption | refine Below.setCell ?_ (by first | (simp; done) | (simp; omega) | omega) _ | refine Below.alloc ?_ (by first | (simp; done) | (simp; omega) | omega) _ | refine below_drewN ?_ _ | refine Below.drew ?_)), blk_alloc (blk_new _ _), start_b1 _ w⟩⟩
  case round =>
    obtain ⟨k, hk, rfl, E⟩ := hrel
    by_cases hlt : k < l.length
    · have hI := (HL.out.below E.bel) k hlt
      obtain ⟨i1, i2⟩ := hI
      obtain ⟨p, hp⟩ : ∃ p, p = (l.getD k (0, 0)).1 := ⟨_, rfl⟩
      obtain ⟨q, hq⟩ : ∃ q, q = (l.getD k (0, 0)).2 := ⟨_, rfl⟩
      rw [← hp] at i1
      rw [← hq] at i2
      have i3 := World.block_lt_of_cell? wr _ i1
      have Hp := Lib.hid hp
      have Hq := Lib.hid hq
      clear hp hq
      obtain ⟨x1, x2, x4, x5, x3⟩ := blk2 E.b1
      have HE := hide E
      clear E
      have bd := cmb_bd (l.take k) 0 0 (by omega) (by omega) (by omega)
      have n1 := nLo_bd p q
      have n2 := nHi_bd p q
      have n3 := nLo_le p q
      have sL := Lib.hid (cmbL_take l k hlt p q Hp.out Hq.out)
      have sH := Lib.hid (cmbH_take l k hlt p q Hp.out Hq.out)
      clear Hp Hq
      generalize cmbL (l.take k) 0 = cl at *
      generalize cmbH (l.take k) 0 = ch at *
      have hk0 : (0 : Int) ≤ (k : Int) := by omega
      have hk1 : (k : Int) < (l.length : Int) := by omega
      go_wp2
      refine region_anyT (S := fun w1 => Below wr.heap.size wr w1) (n := 7) (by kernel_rfl) (Below.refl _ _).drew (fun hS inv => ?_)
      refine anyT_take (i := 0) (oi := _) (v := .agg #[.int .i8 (cl), .int .i8 (ch)]) rfl (by kernel_rfl) (by kernel_rfl) (by kernel_rfl) (by decide) (by decide) (by kernel_rfl) (by kernel_rfl) inv (fun _ _ _ h => h) (Or.inl ⟨by rfl, ?_⟩) hS (fun inv => ?_)
      · intro wz hSw
        have hk1 := (hSw : Below _ _ _).cell (p := ⟨w.heap.size + 1, 0, none⟩) (by first | assumption | (simp; done) | (simp; omega)); have hk2 := (hSw : Below _ _ _).cell (p := ⟨w.heap.size + 1, 1, none⟩) (by first | assumption | (simp; done) | (simp; omega)); go_simp
      (try simp only [Act.put, List.setIfInBounds_toArray, List.set_cons_zero, List.set_cons_succ])
      refine anyT_take (i := 1) (oi := _) (v := .slice (some ⟨b, off, none⟩) l.length cap) rfl (by kernel_rfl) (by kernel_rfl) (by kernel_rfl) (by decide) (by decide) (by kernel_rfl) (by kernel_rfl) inv (fun _ _ _ h => h) (Or.inl ⟨by rfl, ?_⟩) hS (fun inv => ?_)
      · intro wz hSw
        go_simp
      (try simp only [Act.put, List.setIfInBounds_toArray, List.set_cons_zero, List.set_cons_succ])
      refine anyT_take (i := 2) (oi := _) (v := .int .i64 k) rfl (by kernel_rfl) (by kernel_rfl) (by kernel_rfl) (by decide) (by decide) (by kernel_rfl) (by kernel_rfl) inv (fun _ _ _ h => h) (Or.inl ⟨by rfl, ?_⟩) hS (fun inv => ?_)
      · intro wz hSw
        go_simp
      (try simp only [Act.put, List.setIfInBounds_toArray, List.set_cons_zero, List.set_cons_succ])
      refine anyT_take (i := 3) (oi := _) (v := .pointer (some ⟨b, off + k * 2, none⟩)) rfl (by kernel_rfl) (by kernel_rfl) (by kernel_rfl) (by decide) (by decide) (by kernel_rfl) (by kernel_rfl) inv (fun _ _ _ h => h) (Or.inl ⟨by rfl, ?_⟩) hS (fun inv => ?_)
      · intro wz hSw
        go_simp
      (try simp only [Act.put, List.setIfInBounds_toArray, List.set_cons_zero, List.set_cons_succ])
      refine anyT_take (i := 4) (oi := _) (v := .agg #[.int .i8 p, .int .i8 q]) rfl (by kernel_rfl) (by kernel_rfl) (by kernel_rfl) (by decide) (by decide) (by kernel_rfl) (by kernel_rfl) inv (fun _ _ _ h => h) (Or.inl ⟨by rfl, ?_⟩) hS (fun inv => ?_)
      · intro wz hSw
        have hk1 := (hSw : Below _ _ _).cell (p := ⟨b, off + k * 2, none⟩) (by assumption); have hk2 := (hSw : Below _ _ _).cell (p := ⟨b, off + k * 2 + 1, none⟩) (by assumption); go_simp
      (try simp only [Act.put, List.setIfInBounds_toArray, List.set_cons_zero, List.set_cons_succ])
      refine anyT_ready (rs := [5]) (by kernel_rfl) (by simp) ?_
      refine ReadyT.head (o := _) rfl (by decide) (by kernel_rfl) inv (fun K hK => ?_) ReadyT.nil
      go_simp
      refine (rnorm_any p q _).mono ?_; rintro e wa ⟨rfl, hba⟩
      go_wp2_with fail
      refine hK.out _ _ ?_ (fun hS inv => ?_)
      · exact (hS : Below wr.heap.size wr _).trans (hba.mono (Below.size hS))
      clear hK K
      (try simp only [Act.put, List.setIfInBounds_toArray, List.set_cons_zero, List.set_cons_succ])
      refine anyT_ready (rs := [6]) (by kernel_rfl) (by simp) ?_
      refine ReadyT.head (o := _) rfl (by decide) (by kernel_rfl) inv (fun K hK => ?_) ReadyT.nil
      go_simp
      refine (rtwo_any cl ch (nLo p q) (nHi p q) _ (by omega) (by omega) (by omega) (by omega) (by omega) (by omega)).mono ?_; rintro e wb ⟨rfl, hbb⟩
      go_wp2_with fail
      refine hK.out _ _ ?_ (fun hS inv => ?_)
      · exact (hS : Below wr.heap.size wr _).trans (hbb.mono (Below.size hS))
      clear hK K
      (try simp only [Act.put, List.setIfInBounds_toArray, List.set_cons_zero, List.set_cons_succ])
      have c1 := (hS : Below _ _ _).cell (p := ⟨w.heap.size + 1, 0, none⟩) (by assumption)
      have c2 := (hS : Below _ _ _).cell (p := ⟨w.heap.size + 1, 1, none⟩) (by assumption)
      have c3 := (hS : Below _ _ _).frozen (p := ⟨w.heap.size + 1, 0, none⟩) (by assumption)
      have c4 := (hS : Below _ _ _).frozen (p := ⟨w.heap.size + 1, 1, none⟩) (by assumption)
      refine anyT_ready (rs := [7]) (by kernel_rfl) (by simp) ?_
      refine ReadyT.tail (o := _) rfl (by decide) (fun K hK => ?_)
      go_simp
      refine hK.out _ _ ?_
      clear hK K
      (try simp only [Act.put, List.setIfInBounds_toArray, List.set_cons_zero, List.set_cons_succ])
      refine anyT_done (by kernel_rfl) ?_ _
      go_wp2
      go_roundw
      case rel => exact ⟨k + 1, by omega, by go_num, CmbW.to ⟨(((HE.out.bel).trans (hS.mono (Below.size HE.out.bel))).setCell (by simp) _).setCell (by simp) _, blk_far (blk_far (blk_keep HE.out.b0 hS) (by simp)) (by simp), blk2_set (blk_keep HE.out.b1 hS)⟩ sL.out.symm sH.out.symm⟩
      case measure => simp [intOf]; omega
    · obtain ⟨x1, x2, x3, x4, x5⟩ := blk2 E.b0
      obtain ⟨y1, y2, y3, y4, y5⟩ := blk2 E.b1
      have hb0 := E.bel
      have hz : w.heap.size ≤ wr.heap.size := hb0.size
      obtain rfl : k = l.length := by omega
      clear E
      rw [List.take_length] at y1 y2
      go_wp2
      exact bodyPost_ret (v := iv (cmbL l 0) (cmbH l 0)) (by simp [results, Tryd.results16, go_sem, *]) rfl ⟨rfl, by (repeat (first | exact Below.refl _ _ | assumption | refine Below.setCell ?_ (by first | (simp; done) | (simp; omega) | omega) _ | refine Below.alloc ?_ (by first | (simp; done) | (simp; omega) | omega) _ | refine below_drewN ?_ _ | refine Below.drew ?_))⟩

set_option maxHeartbeats 400000 in
theorem combine_0 (a : Option Addr) (cap : Nat) (w : World) : Calls Tryd.prog 15 #[.slice a 0 cap] w (Mk (iv 0 0) w) := by
  go_enter Tryd.func15, Tryd.ntmps15
  go_wp2
  refine wp_loop_rounds 1 ?_
  rw [rounds_succ]
  go_wp2
  exact bodyPost_ret (v := iv 0 0) (by simp [results, Tryd.results15, go_sem]) rfl ⟨rfl, by (repeat (first | exact Below.refl _ _ | assumption | refine Below.setCell ?_ (by first | (simp; done) | (simp; omega) | omega) _ | refine Below.alloc ?_ (by first | (simp; done) | (simp; omega) | omega) _ | refine below_drewN ?_ _ | refine Below.drew ?_))⟩
set_option maxHeartbeats 400000 in
theorem rcombine_0 (a : Option Addr) (cap : Nat) (w : World) : Calls Tryd.prog 16 #[.slice a 0 cap] w (Mk (iv 0 0) w) := by
  go_enter Tryd.func16, Tryd.ntmps16
  go_wp2
  refine wp_loop_rounds 1 ?_
  rw [rounds_succ]
  go_wp2
  exact bodyPost_ret (v := iv 0 0) (by simp [results, Tryd.results16, go_sem]) rfl ⟨rfl, by (repeat (first | exact Below.refl _ _ | assumption | refine Below.setCell ?_ (by first | (simp; done) | (simp; omega) | omega) _ | refine Below.alloc ?_ (by first | (simp; done) | (simp; omega) | omega) _ | refine below_drewN ?_ _ | refine Below.drew ?_))⟩

def cellsOf (l : List (Int × Int)) : List Value := l.flatMap fun p => [.int .i8 p.1, .int .i8 p.2]
theorem cellsOf_take (l : List (Int × Int)) (k : Nat) (h : k < l.length) (p q : Int) (hp : p = (l.getD k (0, 0)).1) (hq : q = (l.getD k (0, 0)).2) :
    cellsOf (l.take k) ++ [.int .i8 p, .int .i8 q] = cellsOf (l.take (k + 1)) := by
  rw [take_snoc2 l k h, hp, hq]; simp [cellsOf]
theorem cellsOf_at : ∀ (l : List (Int × Int)) (i : Nat), i < l.length → (cellsOf l)[i * 2]? = some (.int .i8 (l.getD i (0, 0)).1) ∧ (cellsOf l)[i * 2 + 1]? = some (.int .i8 (l.getD i (0, 0)).2)
  | [], i, h => by simp at h
  | p :: l, 0, _ => by simp [cellsOf]
  | p :: l, i + 1, h => by
    have ih := cellsOf_at l i (by simpa using h)
    have e : cellsOf (p :: l) = .int .i8 p.1 :: .int .i8 p.2 :: cellsOf l := rfl
    rw [e, show (i + 1) * 2 = i * 2 + 1 + 1 by omega, show i * 2 + 1 + 1 + 1 = (i * 2 + 1) + 1 + 1 by omega]
    simpa using ih
/-- A slice of its own with these intervals. -/
def Gv (l : List (Int × Int)) (w : World) (e : Ending) (w' : World) : Prop := ∃ g cap : Nat, e = .returned (.slice (some ⟨g, 0, none⟩) l.length cap) ∧ Below w.heap.size w w' ∧ Ivs w' g 0 l
theorem gv_end {w wr : World} {v : Value} {l : List (Int × Int)} {t : TypeId} (h : wr.ownsRow w.heap.size t 2 v l.length (cellsOf l)) (hb : Below w.heap.size w wr) (h0 : 0 < l.length) : Gv l w (.returned v) wr := by
  rcases h.2 with ⟨h1, h2⟩ | ⟨g, cap, cur, hv, hg, hgg, r⟩
  · omega
  · subst hv
    refine ⟨g, cap, rfl, hb, fun i hi => ?_⟩
    have c := cellsOf_at l i hi
    rw [World.ownsRow.cellAt h (0 + i * 2) (by omega), World.ownsRow.cellAt h (0 + i * 2 + 1) (by omega), Nat.zero_add]
    exact c

theorem info_given : (Tryd.prog.info? 29).map (fun i => (i.zero, i.size, i.bytes)) = some (some (.agg #[.int .i8 0, .int .i8 0]), 2, 2) := by kernel_rfl
set_option maxHeartbeats 2000000 in
theorem given_any (l : List (Int × Int)) (b off cap : Nat) (w : World) (h0 : 0 < l.length) (hm : l.length ≤ 60) (hl : Ivs w b off l) :
    Calls Tryd.prog 14 #[.slice (some ⟨b, off, none⟩) l.length cap] w (Gv l w) := by
  obtain ⟨i0, hi, hz0, hz1, hz2⟩ := info_parts info_given
  have HL := hide hl
  clear hl
  go_enter Tryd.func14, Tryd.ntmps14
  go_wp2
  go_loopw [3, 4] (fun v i wr => ∃ k : Nat, k ≤ l.length ∧ i = .int .i64 k ∧ wr.ownsRow w.heap.size 29 2 v k (cellsOf (l.take k)) ∧ Below w.heap.size w wr) (fun _ i _ => l.length - (intOf i).toNat)
  case atStart => exact ⟨0, by omega, rfl, World.ownsRow_nil _ _ _ _, Below.refl _ _⟩
  case round =>
    obtain ⟨k, hk, rfl, hown, hB⟩ := hrel
    have hs := hB.size
    by_cases hlt : k < l.length
    · obtain ⟨j1, j2⟩ := (HL.out.below hB) k hlt
      obtain ⟨p, hp⟩ : ∃ p, p = (l.getD k (0, 0)).1 := ⟨_, rfl⟩
      obtain ⟨q, hq⟩ : ∃ q, q = (l.getD k (0, 0)).2 := ⟨_, rfl⟩
      rw [← hp] at j1
      rw [← hq] at j2
      have hc := cellsOf_take l k hlt p q hp hq
      have HC := Lib.hid hc
      clear hp hq hc
      go_wp2_with (at_builtin; refine wpList_append_own _ rfl _ _ 24 rfl w.heap.size 29 i0 (.agg #[.int .i8 0, .int .i8 0]) 2 2 Tryd.underlying24 hi hz0 hz1 hz2 rfl (by decide) _ _ _ rfl (hown.alloc _) ⟨wr.heap.size, 0, none⟩ 1 1 [.int .i8 p, .int .i8 q] rfl rfl ?c1 ?c2 ?c3 ?c4 ?c5 ?_)
      case c1 => exact World.news_of_block (cs := #[.int .i8 p, .int .i8 q]) (t := 29) (fr := (0, 0)) (heap_alloc_new wr _)
      case c2 => simp [Value.oneCell']
      case c3 => unfold maxLen; omega
      case c4 => omega
      case c5 => simp; omega
      intro v' w1 hown1 hgrow _
      rw [HC.out] at hown1
      have hB1 := (hB.alloc hs _).grown hgrow (by simp; omega) (fun q hq => (hown.lt q hq).1)
      have hown2 := hide hown1
      clear hown1 hgrow hown HC
      go_wp2
      go_roundw
      case rel => exact ⟨k + 1, by omega, by go_num, hown2.out, hB1⟩
      case measure => simp [intOf]; omega
    · obtain rfl : k = l.length := by omega
      rw [List.take_length] at hown
      go_wp2
      go_ret
      exact gv_end hown hB h0
set_option maxHeartbeats 400000 in
theorem given_0 (a : Option Addr) (cap : Nat) (w : World) :
    Calls Tryd.prog 14 #[.slice a 0 cap] w fun e w' => e = .returned (.slice none 0 0) ∧ w' = w := by
  go_enter Tryd.func14, Tryd.ntmps14
  go_wp2
  refine wp_loop_rounds 1 ?_
  rw [rounds_succ]
  go_wp2
  go_ret
  exact ⟨rfl, rfl⟩

theorem info_told : (Tryd.prog.info? 28).map (fun i => (i.zero, i.size, i.bytes)) = some (some (.agg #[.int .i8 0, .int .i8 0]), 2, 2) := by kernel_rfl
set_option maxHeartbeats 2000000 in
theorem told_any (l : List (Int × Int)) (b off cap : Nat) (w : World) (h0 : 0 < l.length) (hm : l.length ≤ 60) (hl : Ivs w b off l) :
    Calls Tryd.prog 17 #[.slice (some ⟨b, off, none⟩) l.length cap] w (Gv l w) := by
  obtain ⟨i0, hi, hz0, hz1, hz2⟩ := info_parts info_told
  have HL := hide hl
  clear hl
  go_enter Tryd.func17, Tryd.ntmps17
  go_wp2
  go_loopw [3, 4] (fun v i wr => ∃ k : Nat, k ≤ l.length ∧ i = .int .i64 k ∧ wr.ownsRow w.heap.size 28 2 v k (cellsOf (l.take k)) ∧ Below w.heap.size w wr) (fun _ i _ => l.length - (intOf i).toNat)
  case atStart => exact ⟨0, by omega, rfl, World.ownsRow_nil _ _ _ _, Below.refl _ _⟩
  case round =>
    obtain ⟨k, hk, rfl, hown, hB⟩ := hrel
    have hs := hB.size
    by_cases hlt : k < l.length
    · obtain ⟨j1, j2⟩ := (HL.out.below hB) k hlt
      obtain ⟨p, hp⟩ : ∃ p, p = (l.getD k (0, 0)).1 := ⟨_, rfl⟩
      obtain ⟨q, hq⟩ : ∃ q, q = (l.getD k (0, 0)).2 := ⟨_, rfl⟩
      rw [← hp] at j1
      rw [← hq] at j2
      have hc := cellsOf_take l k hlt p q hp hq
      have HC := Lib.hid hc
      clear hp hq hc
      go_wp2_with (at_builtin; refine wpList_append_own _ rfl _ _ 32 rfl w.heap.size 28 i0 (.agg #[.int .i8 0, .int .i8 0]) 2 2 Tryd.underlying32 hi hz0 hz1 hz2 rfl (by decide) _ _ _ rfl (hown.alloc _) ⟨wr.heap.size, 0, none⟩ 1 1 [.int .i8 p, .int .i8 q] rfl rfl ?c1 ?c2 ?c3 ?c4 ?c5 ?_)
      case c1 => exact World.news_of_block (cs := #[.int .i8 p, .int .i8 q]) (t := 28) (fr := (0, 0)) (heap_alloc_new wr _)
      case c2 => simp [Value.oneCell']
      case c3 => unfold maxLen; omega
      case c4 => omega
      case c5 => simp; omega
      intro v' w1 hown1 hgrow _
      rw [HC.out] at hown1
      have hB1 := (hB.alloc hs _).grown hgrow (by simp; omega) (fun q hq => (hown.lt q hq).1)
      have hown2 := hide hown1
      clear hown1 hgrow hown HC
      go_wp2
      go_roundw
      case rel => exact ⟨k + 1, by omega, by go_num, hown2.out, hB1⟩
      case measure => simp [intOf]; omega
    · obtain rfl : k = l.length := by omega
      rw [List.take_length] at hown
      go_wp2
      go_ret
      exact gv_end hown hB h0
set_option maxHeartbeats 400000 in
theorem told_0 (a : Option Addr) (cap : Nat) (w : World) :
    Calls Tryd.prog 17 #[.slice a 0 cap] w fun e w' => e = .returned (.slice none 0 0) ∧ w' = w := by
  go_enter Tryd.func17, Tryd.ntmps17
  go_wp2
  refine wp_loop_rounds 1 ?_
  rw [rounds_succ]
  go_wp2
  go_ret
  exact ⟨rfl, rfl⟩

end Go.Proofs.YtiggmncjmkeboaaDoor
