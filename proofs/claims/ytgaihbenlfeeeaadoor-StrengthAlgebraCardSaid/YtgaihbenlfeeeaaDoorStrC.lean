/-
  The contract of Combine: the combination of all intervals of a slice.
-/
import Derived.Test.YtgaihbenlfeeeaaDoorStrA
import Derived.Test.YtgaihbenlfeeeaaDoorStrH
import Derived.LoopTactic
namespace Go.Proofs.YtgaihbenlfeeeaaDoor
open Go.RowKit
set_option linter.unusedSimpArgs false

theorem blk2 {w : World} {b : Nat} {x y : Value} {t : TypeId} (h : w.heap[b]? = some (.cells #[x, y] t (0, 0))) :
    w.cell? ⟨b, 0, none⟩ = some x ∧ w.cell? ⟨b, 1, none⟩ = some y ∧ w.frozen? ⟨b, 0, none⟩ = false ∧ w.frozen? ⟨b, 1, none⟩ = false ∧ b < w.heap.size := by
  have hb : b < w.heap.size := by
    rcases Nat.lt_or_ge b w.heap.size with h' | h'
    · exact h'
    · rw [Array.getElem?_eq_none h'] at h; cases h
  refine ⟨?_, ?_, ?_, ?_, hb⟩ <;> simp [World.cell?, World.frozen?, h]
theorem blk2_set {w : World} {b : Nat} {x y u v : Value} {t : TypeId} (h : w.heap[b]? = some (.cells #[x, y] t (0, 0))) :
    ((w.setCell ⟨b, 0, none⟩ u).setCell ⟨b, 1, none⟩ v).heap[b]? = some (.cells #[u, v] t (0, 0)) := by
  simp [World.setCell, Array.getElem?_modify, h]
theorem blk_far {w : World} {b : Nat} {a : Addr} {u : Value} {o : Option Obj} (h : w.heap[b]? = o) (hne : b ≠ a.block) : (w.setCell a u).heap[b]? = o := by
  rw [Below.heap_setCell _ _ _ _ hne]; exact h
theorem blk_alloc {w : World} {b : Nat} {x : Obj} {o : Obj} (h : w.heap[b]? = some o) : (w.alloc x).heap[b]? = some o := by
  have hb : b < w.heap.size := by
    rcases Nat.lt_or_ge b w.heap.size with h' | h'
    · exact h'
    · rw [Array.getElem?_eq_none h'] at h; cases h
  rw [Below.heap_alloc _ _ _ hb]; exact h
theorem blk_new (w : World) (o : Obj) : (w.alloc o).heap[w.heap.size]? = some o := by
  show (w.heap.push o)[w.heap.size]? = _; simp
theorem blk_keep {w w' : World} {b : Nat} {o : Obj} (h : w.heap[b]? = some o) (hb : Below w.heap.size w w') : w'.heap[b]? = some o := by
  have : b < w.heap.size := by
    rcases Nat.lt_or_ge b w.heap.size with h' | h'
    · exact h'
    · rw [Array.getElem?_eq_none h'] at h; cases h
  rw [hb.block _ this]; exact h

/-- The cells of a row of intervals. -/
def Ivs (w : World) (b off : Nat) (l : List (Int × Int)) : Prop := ∀ i, i < l.length → w.cell? ⟨b, off + i * 2, none⟩ = some (.int .i8 (l.getD i (0, 0)).1) ∧ w.cell? ⟨b, off + i * 2 + 1, none⟩ = some (.int .i8 (l.getD i (0, 0)).2)
theorem Ivs.below {w w' : World} {b off : Nat} {l : List (Int × Int)} (h : Ivs w b off l) (hb : Below w.heap.size w w') : Ivs w' b off l := fun i hi => by
  obtain ⟨h1, h2⟩ := h i hi
  exact ⟨(hb.cell (World.block_lt_of_cell? w _ h1)).trans h1, (hb.cell (World.block_lt_of_cell? w _ h2)).trans h2⟩
theorem take_snoc2 (l : List (Int × Int)) (k : Nat) (h : k < l.length) : l.take (k + 1) = l.take k ++ [l.getD k (0, 0)] := by
  rw [List.take_succ_eq_append_getElem h, List.getD_eq_getElem?_getD, List.getElem?_eq_getElem h]; rfl
theorem cmbL_take (l : List (Int × Int)) (k : Nat) (h : k < l.length) (p q : Int) (hp : p = (l.getD k (0, 0)).1) (hq : q = (l.getD k (0, 0)).2) : cmbL (l.take (k + 1)) 0 = cLo (cmbL (l.take k) 0) (nLo p q) := by
  rw [take_snoc2 l k h, cmbL_snoc, hp, hq]
theorem cmbH_take (l : List (Int × Int)) (k : Nat) (h : k < l.length) (p q : Int) (hp : p = (l.getD k (0, 0)).1) (hq : q = (l.getD k (0, 0)).2) : cmbH (l.take (k + 1)) 0 = cHi (cmbH (l.take k) 0) (nHi p q) := by
  rw [take_snoc2 l k h, cmbH_snoc, hp, hq]

/-- What holds at the head of Combine's loop: the result's block and the running combination's. -/
structure CmbW (t : TypeId) (w wr : World) (x y : Int) : Prop where
  bel : Below w.heap.size w wr
  b0 : wr.heap[w.heap.size]? = some (.cells #[.int .i8 0, .int .i8 0] t (0, 0))
  b1 : wr.heap[w.heap.size + 1]? = some (.cells #[.int .i8 x, .int .i8 y] t (0, 0))
theorem CmbW.to {t : TypeId} {w wr : World} {x y u v : Int} (h : CmbW t w wr x y) (hx : x = u) (hy : y = v) : CmbW t w wr u v := by subst hx hy; exact h

theorem start_b1 (t : TypeId) (w : World) : ((w.alloc (.cells #[.int .i8 0, .int .i8 0] t)).alloc (.cells #[.int .i8 0, .int .i8 0] t)).heap[w.heap.size + 1]? = some (.cells #[.int .i8 0, .int .i8 0] t (0, 0)) := by
  have h := blk_new (w.alloc (.cells #[.int .i8 0, .int .i8 0] t)) (.cells #[.int .i8 0, .int .i8 0] t)
  rwa [show (w.alloc (.cells #[.int .i8 0, .int .i8 0] t)).heap.size = w.heap.size + 1 by simp] at h

set_option maxHeartbeats 1000000 in
theorem combine_any (l : List (Int × Int)) (b off cap : Nat) (w : World) (hm : l.length ≤ 4611686018427387904) (hl : Ivs w b off l) :
    Calls Tryd.prog 15 #[.slice (some ⟨b, off, none⟩) l.length cap] w (Mk (iv (cmbL l 0) (cmbH l 0)) w) := by
  have HL := hide hl
  clear hl
  go_enter Tryd.func15, Tryd.ntmps15
  go_wp2
  go_loopw [8] (fun i wr => ∃ k : Nat, k ≤ l.length ∧ i = .int .i64 k ∧ CmbW 29 w wr (cmbL (l.take k) 0) (cmbH (l.take k) 0)) (fun i _ => l.length - (intOf i).toNat)
  case atStart => exact ⟨0, by omega, rfl, ⟨by (repeat (first | exact Below.refl _ _ | assumption | refine Below.setCell ?_ (by first | (simp; done) | (simp; omega) | omega) _ | refine Below.alloc ?_ (by first | (simp; done) | (simp; omega) | omega) _ | refine below_drewN ?_ _ | refine Below.drew ?_)), blk_alloc (blk_new _ _), start_b1 _ w⟩⟩
  case round =>
    obtain ⟨k, hk, rfl, E⟩ := hrel
    by_cases hlt : k < l.length
    · have hI := (HL.out.below E.bel) k hlt
      obtain ⟨i1, i2⟩ := hI
      obtain ⟨p, hp⟩ : ∃ p, p = (l.getD k (0, 0)).1 := ⟨_, rfl⟩
      obtain ⟨q, hq⟩ : ∃ q, q = (l.getD k (0, 0)).2 := ⟨_, rfl⟩
      rw [← hp] at i1
      rw [← hq] at i2
      have Hp := Lib.hid hp
      have Hq := Lib.hid hq
      clear hp hq
      have HE := hide E
      clear E
      go_wp2_with ((go_at_call 18; (with_reducible refine (norm_any _ _ _).mono ?_); rintro e w' ⟨rfl, hb⟩; obtain ⟨hc, hf⟩ := bcell hb))
      have hb1 : w.heap.size < wr.heap.size := (blk2 HE.out.b0).2.2.2.2
      have hb2 : w.heap.size + 1 < wr.heap.size := (blk2 HE.out.b1).2.2.2.2
      obtain ⟨W6, hW6⟩ : ∃ W6, W6 = (w'.setCell ⟨wr.heap.size, 0, none⟩ (.int .i8 (nLo p q))).setCell ⟨wr.heap.size, 1, none⟩ (.int .i8 (nHi p q)) := ⟨_, rfl⟩
      rw [← hW6]
      have e0 : W6.heap[w.heap.size]? = some (.cells #[.int .i8 0, .int .i8 0] 29 (0, 0)) := by
        rw [hW6]; exact blk_far (blk_far ((hb.block _ (by simp; omega)).trans (blk_alloc HE.out.b0)) (by simp; omega)) (by simp; omega)
      have e1 : W6.heap[w.heap.size + 1]? = some (.cells #[.int .i8 (cmbL (l.take k) 0), .int .i8 (cmbH (l.take k) 0)] 29 (0, 0)) := by
        rw [hW6]; exact blk_far (blk_far ((hb.block _ (by simp; omega)).trans (blk_alloc HE.out.b1)) (by simp; omega)) (by simp; omega)
      have e5 : W6.heap[wr.heap.size]? = some (.cells #[.int .i8 (nLo p q), .int .i8 (nHi p q)] 29 (0, 0)) := by
        rw [hW6]; exact blk2_set ((hb.block _ (by simp)).trans (blk_new wr _))
      have e6 : Below w.heap.size w W6 := by
        rw [hW6]; exact (Below.setCell (Below.setCell (((HE.out.bel).alloc (by omega) _).trans (hb.mono (by simp; omega))) (by simp; omega) _) (by simp; omega) _)
      clear hW6 hc hf hb i1 i2 HE
      have bd := cmb_bd (l.take k) 0 0 (by omega) (by omega) (by omega)
      have n1 := nLo_bd p q
      have n2 := nHi_bd p q
      have sL := Lib.hid (cmbL_take l k hlt p q Hp.out Hq.out)
      have sH := Lib.hid (cmbH_take l k hlt p q Hp.out Hq.out)
      clear Hp Hq
      obtain ⟨x1, x2, x4, x5, x3⟩ := blk2 e1
      obtain ⟨y1, y2, _, _, y3⟩ := blk2 e5
      have E0 := hide e0
      have E1 := hide e1
      have E6 := hide e6
      clear e0 e1 e5 e6
      generalize cmbL (l.take k) 0 = cl at *
      generalize cmbH (l.take k) 0 = ch at *
      generalize nLo p q = nl at *
      generalize nHi p q = nh at *
      refine region_anyT (S := fun w1 => Below W6.heap.size W6 w1) (n := 13) (by kernel_rfl) (Below.refl _ _).drew (fun hS inv => ?_)
      refine anyT_take (i := 0) (oi := _) (v := .pointer (some ⟨w.heap.size + 1, 0, none⟩)) rfl (by kernel_rfl) (by kernel_rfl) (by kernel_rfl) (by decide) (by decide) (by kernel_rfl) (by kernel_rfl) inv (fun _ _ _ h => h) (Or.inl ⟨by rfl, ?_⟩) hS (fun inv => ?_)
      · intro wz hSw
        go_simp
      (try simp only [Act.put, List.setIfInBounds_toArray, List.set_cons_zero, List.set_cons_succ])
      refine anyT_take (i := 1) (oi := _) (v := .int .i8 (cl)) rfl (by kernel_rfl) (by kernel_rfl) (by kernel_rfl) (by decide) (by decide) (by kernel_rfl) (by kernel_rfl) inv (fun _ _ _ h => h) (Or.inl ⟨by rfl, ?_⟩) hS (fun inv => ?_)
      · intro wz hSw
        have hk1 := (hSw : Below _ _ _).cell (p := ⟨w.heap.size + 1, 0, none⟩) (by assumption); go_simp
      (try simp only [Act.put, List.setIfInBounds_toArray, List.set_cons_zero, List.set_cons_succ])
      refine anyT_take (i := 2) (oi := _) (v := .pointer (some ⟨wr.heap.size, 0, none⟩)) rfl (by kernel_rfl) (by kernel_rfl) (by kernel_rfl) (by decide) (by decide) (by kernel_rfl) (by kernel_rfl) inv (fun _ _ _ h => h) (Or.inl ⟨by rfl, ?_⟩) hS (fun inv => ?_)
      · intro wz hSw
        go_simp
      (try simp only [Act.put, List.setIfInBounds_toArray, List.set_cons_zero, List.set_cons_succ])
      refine anyT_take (i := 3) (oi := _) (v := .int .i8 (nl)) rfl (by kernel_rfl) (by kernel_rfl) (by kernel_rfl) (by decide) (by decide) (by kernel_rfl) (by kernel_rfl) inv (fun _ _ _ h => h) (Or.inl ⟨by rfl, ?_⟩) hS (fun inv => ?_)
      · intro wz hSw
        have hk1 := (hSw : Below _ _ _).cell (p := ⟨wr.heap.size, 0, none⟩) (by assumption); go_simp
      (try simp only [Act.put, List.setIfInBounds_toArray, List.set_cons_zero, List.set_cons_succ])
      refine anyT_take (i := 6) (oi := _) (v := .pointer (some ⟨w.heap.size + 1, 1, none⟩)) rfl (by kernel_rfl) (by kernel_rfl) (by kernel_rfl) (by decide) (by decide) (by kernel_rfl) (by kernel_rfl) inv (fun _ _ _ h => h) (Or.inl ⟨by rfl, ?_⟩) hS (fun inv => ?_)
      · intro wz hSw
        go_simp
      (try simp only [Act.put, List.setIfInBounds_toArray, List.set_cons_zero, List.set_cons_succ])
      refine anyT_take (i := 7) (oi := _) (v := .int .i8 (ch)) rfl (by kernel_rfl) (by kernel_rfl) (by kernel_rfl) (by decide) (by decide) (by kernel_rfl) (by kernel_rfl) inv (fun _ _ _ h => h) (Or.inl ⟨by rfl, ?_⟩) hS (fun inv => ?_)
      · intro wz hSw
        have hk1 := (hSw : Below _ _ _).cell (p := ⟨w.heap.size + 1, 1, none⟩) (by assumption); go_simp
      (try simp only [Act.put, List.setIfInBounds_toArray, List.set_cons_zero, List.set_cons_succ])
      refine anyT_take (i := 8) (oi := _) (v := .pointer (some ⟨wr.heap.size, 1, none⟩)) rfl (by kernel_rfl) (by kernel_rfl) (by kernel_rfl) (by decide) (by decide) (by kernel_rfl) (by kernel_rfl) inv (fun _ _ _ h => h) (Or.inl ⟨by rfl, ?_⟩) hS (fun inv => ?_)
      · intro wz hSw
        go_simp
      (try simp only [Act.put, List.setIfInBounds_toArray, List.set_cons_zero, List.set_cons_succ])
      refine anyT_take (i := 9) (oi := _) (v := .int .i8 (nh)) rfl (by kernel_rfl) (by kernel_rfl) (by kernel_rfl) (by decide) (by decide) (by kernel_rfl) (by kernel_rfl) inv (fun _ _ _ h => h) (Or.inl ⟨by rfl, ?_⟩) hS (fun inv => ?_)
      · intro wz hSw
        have hk1 := (hSw : Below _ _ _).cell (p := ⟨wr.heap.size, 1, none⟩) (by assumption); go_simp
      (try simp only [Act.put, List.setIfInBounds_toArray, List.set_cons_zero, List.set_cons_succ])
      refine anyT_ready (rs := [4]) (by kernel_rfl) (by simp) ?_
      refine ReadyT.head (o := _) rfl (by decide) (by kernel_rfl) inv (fun K hK => ?_) ReadyT.nil
      go_simp
      refine (compete_any (cl) (nl) _ (by omega) (by omega) (by omega) (by omega)).mono ?_; rintro e wa ⟨rfl, hba⟩
      go_wp2_with fail
      refine hK.out _ _ ?_ (fun hS inv => ?_)
      · exact (hS : Below W6.heap.size W6 _).trans (hba.mono (Below.size hS))
      clear hK K
      (try simp only [Act.put, List.setIfInBounds_toArray, List.set_cons_zero, List.set_cons_succ])
      refine anyT_take (i := 5) (oi := _) (v := .int .i8 (cLo cl nl)) rfl (by kernel_rfl) (by kernel_rfl) (by kernel_rfl) (by decide) (by decide) (by kernel_rfl) (by kernel_rfl) inv (fun _ _ _ h => h) (Or.inl ⟨by rfl, ?_⟩) hS (fun inv => ?_)
      · intro wz hSw
        kernel_rfl
      (try simp only [Act.put, List.setIfInBounds_toArray, List.set_cons_zero, List.set_cons_succ])
      refine anyT_ready (rs := [10]) (by kernel_rfl) (by simp) ?_
      refine ReadyT.head (o := _) rfl (by decide) (by kernel_rfl) inv (fun K hK => ?_) ReadyT.nil
      go_simp
      refine (compete_any (ch) (nh) _ (by omega) (by omega) (by omega) (by omega)).mono ?_; rintro e wb ⟨rfl, hbb⟩
      go_wp2_with fail
      refine hK.out _ _ ?_ (fun hS inv => ?_)
      · exact (hS : Below W6.heap.size W6 _).trans (hbb.mono (Below.size hS))
      clear hK K
      (try simp only [Act.put, List.setIfInBounds_toArray, List.set_cons_zero, List.set_cons_succ])
      refine anyT_take (i := 11) (oi := _) (v := .int .i8 (cHi ch nh)) rfl (by kernel_rfl) (by kernel_rfl) (by kernel_rfl) (by decide) (by decide) (by kernel_rfl) (by kernel_rfl) inv (fun _ _ _ h => h) (Or.inl ⟨by rfl, ?_⟩) hS (fun inv => ?_)
      · intro wz hSw
        kernel_rfl
      (try simp only [Act.put, List.setIfInBounds_toArray, List.set_cons_zero, List.set_cons_succ])
      refine anyT_take (i := 12) (oi := _) (v := iv (cLo cl nl) (cHi ch nh)) rfl (by kernel_rfl) (by kernel_rfl) (by kernel_rfl) (by decide) (by decide) (by kernel_rfl) (by kernel_rfl) inv (fun _ _ _ h => h) (Or.inl ⟨by rfl, ?_⟩) hS (fun inv => ?_)
      · intro wz hSw
        go_simp
      (try simp only [Act.put, List.setIfInBounds_toArray, List.set_cons_zero, List.set_cons_succ])
      have ex := Below.trans (below_drewN (Below.refl W6.heap.size W6) 0) hS
      have c1 := (hS : Below _ _ _).cell (p := ⟨w.heap.size + 1, 0, none⟩) (by assumption)
      have c2 := (hS : Below _ _ _).cell (p := ⟨w.heap.size + 1, 1, none⟩) (by assumption)
      have c3 := (hS : Below _ _ _).frozen (p := ⟨w.heap.size + 1, 0, none⟩) (by assumption)
      have c4 := (hS : Below _ _ _).frozen (p := ⟨w.heap.size + 1, 1, none⟩) (by assumption)
      refine anyT_ready (rs := [13]) (by kernel_rfl) (by simp) ?_
      refine ReadyT.tail (o := _) rfl (by decide) (fun K hK => ?_)
      go_simp
      refine hK.out _ _ ?_
      clear hK K
      (try simp only [Act.put, List.setIfInBounds_toArray, List.set_cons_zero, List.set_cons_succ])
      refine anyT_done (by kernel_rfl) ?_ _
      go_wp2
      go_roundw
      case rel => exact ⟨k + 1, by omega, by go_num, CmbW.to ⟨(((E6.out).trans (hS.mono (Below.size E6.out))).setCell (by simp) _).setCell (by simp) _, blk_far (blk_far (blk_keep E0.out hS) (by simp)) (by simp), blk2_set (blk_keep E1.out hS)⟩ sL.out.symm sH.out.symm⟩
      case measure => simp [intOf]; omega
    · obtain ⟨x1, x2, x3, x4, x5⟩ := blk2 E.b0
      obtain ⟨y1, y2, y3, y4, y5⟩ := blk2 E.b1
      have hb0 := E.bel
      have hz : w.heap.size ≤ wr.heap.size := hb0.size
      obtain rfl : k = l.length := by omega
      clear E
      rw [List.take_length] at y1 y2
      go_wp2
      exact bodyPost_ret (v := iv (cmbL l 0) (cmbH l 0)) (by simp [results, Tryd.results15, go_sem, *]) rfl ⟨rfl, by (repeat (first | exact Below.refl _ _ | assumption | refine Below.setCell ?_ (by first | (simp; done) | (simp; omega) | omega) _ | refine Below.alloc ?_ (by first | (simp; done) | (simp; omega) | omega) _ | refine below_drewN ?_ _ | refine Below.drew ?_))⟩

end Go.Proofs.YtgaihbenlfeeeaaDoor
