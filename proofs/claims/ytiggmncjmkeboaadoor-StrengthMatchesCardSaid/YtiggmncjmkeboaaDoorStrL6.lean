/-
  The walk of StrengthMatches.
-/
import Derived.Test.YtiggmncjmkeboaaDoorStrQ
namespace Go.Proofs.YtiggmncjmkeboaaDoor
open Go.RowKit
set_option linter.unusedSimpArgs false

def C2 (B o : Nat) (x y : Int) (w : World) : Prop := B < w.heap.size ∧ w.cell? ⟨B, o, none⟩ = some (.int .i8 x) ∧ w.cell? ⟨B, o + 1, none⟩ = some (.int .i8 y)
theorem C2.below {B o : Nat} {x y : Int} {w w' : World} (h : C2 B o x y w) (hb : Below w.heap.size w w') : C2 B o x y w' :=
  ⟨Nat.lt_of_lt_of_le h.1 hb.size, (hb.cell (p := ⟨B, o, none⟩) h.1).trans h.2.1, (hb.cell (p := ⟨B, o + 1, none⟩) h.1).trans h.2.2⟩
theorem m3_call {B : Nat} {w w' w2 : World} {g o N M : Nat} {p q x y u v : Int} (h : Below B w w' ∧ C2 g o p q w' ∧ At2 N x y w' ∧ At2 M u v w') (hb : Below w'.heap.size w' w2) (hB : B ≤ w'.heap.size) : Below B w w2 ∧ C2 g o p q w2 ∧ At2 N x y w2 ∧ At2 M u v w2 :=
  ⟨h.1.trans (hb.mono hB), h.2.1.below hb, h.2.2.1.below hb, h.2.2.2.below hb⟩
theorem m3_bel {B : Nat} {w w' : World} {g o N M : Nat} {p q x y u v : Int} (h : Below B w w' ∧ C2 g o p q w' ∧ At2 N x y w' ∧ At2 M u v w') : Below B w w' := h.1
theorem norm_r (p q x y : Int) (w : World) (hx : nLo p q = x) (hy : nHi p q = y) : Calls Tryd.prog 18 #[iv p q] w (Mk (iv x y) w) := by
  have h := norm_any p q w; rw [hx, hy] at h; exact h
theorem rnorm_r (p q x y : Int) (w : World) (hx : nLo p q = x) (hy : nHi p q = y) : Calls Tryd.prog 19 #[iv p q] w (Mk (iv x y) w) := by
  have h := rnorm_any p q w; rw [hx, hy] at h; exact h
theorem valid_r (p q : Int) (v : Bool) (w : World) (hv : mVal p q = v) : Calls Tryd.prog 20 #[iv p q] w (Mk (.bool v) w) := by
  have h := valid_any p q w; rw [hv] at h; exact h

theorem given_0m (a : Option Addr) (cap : Nat) (w : World) : Calls Tryd.prog 14 #[.slice a 0 cap] w (Mk (.slice none 0 0) w) := (given_0 a cap w).mono fun _ _ ⟨he, hw⟩ => ⟨he, by rw [hw]; exact Below.refl _ _⟩
theorem told_0m (a : Option Addr) (cap : Nat) (w : World) : Calls Tryd.prog 17 #[.slice a 0 cap] w (Mk (.slice none 0 0) w) := (told_0 a cap w).mono fun _ _ ⟨he, hw⟩ => ⟨he, by rw [hw]; exact Below.refl _ _⟩

set_option maxRecDepth 100000 in
set_option maxHeartbeats 2000000 in
theorem StrengthMatches_0 (a : Option Addr) (cap : Nat) (n : Int) (w : World) (hN : Names w) : Calls Tryd.prog 3 #[.slice a 0 cap, .int .i64 n] w (Mk (.bool true) w) := by
  have HN := hide hN
  clear hN
  have hB : Below w.heap.size w w := Below.refl _ _
  go_enter Tryd.func3, Tryd.ntmps3
  go_wp2_with (first
    | (go_at_call 14; (with_reducible refine Calls.mono (given_0m _ _ _) ?_); rintro e wz ⟨rfl, hb⟩; have hs := hB.size; replace hB := Below.trans (B := w.heap.size) (a := w) (by (repeat (first | assumption | exact Below.refl _ _ | refine Below.setCell ?_ (by first | (simp; done) | omega | (simp; omega)) _ | refine Below.alloc ?_ (by first | (simp; done) | omega | (simp; omega)) _ | refine below_drewN ?_ _ | refine Below.drew ?_))) (hb.mono (by first | omega | (simp; omega))); clear hs; clear hb)
    | (go_at_call 15; (with_reducible refine Calls.mono (combine_0 _ _ _) ?_); rintro e wz ⟨rfl, hb⟩; have hs := hB.size; replace hB := Below.trans (B := w.heap.size) (a := w) (by (repeat (first | assumption | exact Below.refl _ _ | refine Below.setCell ?_ (by first | (simp; done) | omega | (simp; omega)) _ | refine Below.alloc ?_ (by first | (simp; done) | omega | (simp; omega)) _ | refine below_drewN ?_ _ | refine Below.drew ?_))) (hb.mono (by first | omega | (simp; omega))); clear hs; clear hb)
    | (go_at_call 17; (with_reducible refine Calls.mono (told_0m _ _ _) ?_); rintro e wz ⟨rfl, hb⟩; have hs := hB.size; replace hB := Below.trans (B := w.heap.size) (a := w) (by (repeat (first | assumption | exact Below.refl _ _ | refine Below.setCell ?_ (by first | (simp; done) | omega | (simp; omega)) _ | refine Below.alloc ?_ (by first | (simp; done) | omega | (simp; omega)) _ | refine below_drewN ?_ _ | refine Below.drew ?_))) (hb.mono (by first | omega | (simp; omega))); clear hs; clear hb)
    | (go_at_call 16; (with_reducible refine Calls.mono (rcombine_0 _ _ _) ?_); rintro e wz ⟨rfl, hb⟩; have hs := hB.size; replace hB := Below.trans (B := w.heap.size) (a := w) (by (repeat (first | assumption | exact Below.refl _ _ | refine Below.setCell ?_ (by first | (simp; done) | omega | (simp; omega)) _ | refine Below.alloc ?_ (by first | (simp; done) | omega | (simp; omega)) _ | refine below_drewN ?_ _ | refine Below.drew ?_))) (hb.mono (by first | omega | (simp; omega))); clear hs; clear hb)
    | (go_at_call 13; (with_reducible refine Calls.mono (awake_any _ ?_) ?_); (exact Names.over HN (by assumption)); rintro e wz ⟨rfl, hb⟩; have hs := hB.size; replace hB := Below.trans (B := w.heap.size) (a := w) (by (repeat (first | assumption | exact Below.refl _ _ | refine Below.setCell ?_ (by first | (simp; done) | omega | (simp; omega)) _ | refine Below.alloc ?_ (by first | (simp; done) | omega | (simp; omega)) _ | refine below_drewN ?_ _ | refine Below.drew ?_))) (hb.mono (by first | omega | (simp; omega))); clear hs; clear hb))
  refine wp_loop_rounds 1 ?_
  rw [rounds_succ]
  go_wp2_with (first
    | (go_at_call 14; (with_reducible refine Calls.mono (given_0m _ _ _) ?_); rintro e wz ⟨rfl, hb⟩; have hs := hB.size; replace hB := Below.trans (B := w.heap.size) (a := w) (by (repeat (first | assumption | exact Below.refl _ _ | refine Below.setCell ?_ (by first | (simp; done) | omega | (simp; omega)) _ | refine Below.alloc ?_ (by first | (simp; done) | omega | (simp; omega)) _ | refine below_drewN ?_ _ | refine Below.drew ?_))) (hb.mono (by first | omega | (simp; omega))); clear hs; clear hb)
    | (go_at_call 15; (with_reducible refine Calls.mono (combine_0 _ _ _) ?_); rintro e wz ⟨rfl, hb⟩; have hs := hB.size; replace hB := Below.trans (B := w.heap.size) (a := w) (by (repeat (first | assumption | exact Below.refl _ _ | refine Below.setCell ?_ (by first | (simp; done) | omega | (simp; omega)) _ | refine Below.alloc ?_ (by first | (simp; done) | omega | (simp; omega)) _ | refine below_drewN ?_ _ | refine Below.drew ?_))) (hb.mono (by first | omega | (simp; omega))); clear hs; clear hb)
    | (go_at_call 17; (with_reducible refine Calls.mono (told_0m _ _ _) ?_); rintro e wz ⟨rfl, hb⟩; have hs := hB.size; replace hB := Below.trans (B := w.heap.size) (a := w) (by (repeat (first | assumption | exact Below.refl _ _ | refine Below.setCell ?_ (by first | (simp; done) | omega | (simp; omega)) _ | refine Below.alloc ?_ (by first | (simp; done) | omega | (simp; omega)) _ | refine below_drewN ?_ _ | refine Below.drew ?_))) (hb.mono (by first | omega | (simp; omega))); clear hs; clear hb)
    | (go_at_call 16; (with_reducible refine Calls.mono (rcombine_0 _ _ _) ?_); rintro e wz ⟨rfl, hb⟩; have hs := hB.size; replace hB := Below.trans (B := w.heap.size) (a := w) (by (repeat (first | assumption | exact Below.refl _ _ | refine Below.setCell ?_ (by first | (simp; done) | omega | (simp; omega)) _ | refine Below.alloc ?_ (by first | (simp; done) | omega | (simp; omega)) _ | refine below_drewN ?_ _ | refine Below.drew ?_))) (hb.mono (by first | omega | (simp; omega))); clear hs; clear hb)
    | (go_at_call 13; (with_reducible refine Calls.mono (awake_any _ ?_) ?_); (exact Names.over HN (by assumption)); rintro e wz ⟨rfl, hb⟩; have hs := hB.size; replace hB := Below.trans (B := w.heap.size) (a := w) (by (repeat (first | assumption | exact Below.refl _ _ | refine Below.setCell ?_ (by first | (simp; done) | omega | (simp; omega)) _ | refine Below.alloc ?_ (by first | (simp; done) | omega | (simp; omega)) _ | refine below_drewN ?_ _ | refine Below.drew ?_))) (hb.mono (by first | omega | (simp; omega))); clear hs; clear hb))
  go_ret
  exact ⟨rfl, hB⟩

set_option maxRecDepth 100000 in
set_option maxHeartbeats 2000000 in
theorem StrengthMatches_long (l : List (Int × Int)) (b off cap : Nat) (n : Int) (w : World) (hl : 60 < l.length) (hN : Names w) : Calls Tryd.prog 3 #[.slice (some ⟨b, off, none⟩) l.length cap, .int .i64 n] w (Mk (.bool true) w) := by
  have HN := hide hN
  clear hN
  have hl2 : (60 : Int) < (l.length : Int) := by omega
  have hB : Below w.heap.size w w := Below.refl _ _
  go_enter Tryd.func3, Tryd.ntmps3
  go_wp2_with (first
    | (go_at_call 14; (with_reducible refine Calls.mono (given_0m _ _ _) ?_); rintro e wz ⟨rfl, hb⟩; have hs := hB.size; replace hB := Below.trans (B := w.heap.size) (a := w) (by (repeat (first | assumption | exact Below.refl _ _ | refine Below.setCell ?_ (by first | (simp; done) | omega | (simp; omega)) _ | refine Below.alloc ?_ (by first | (simp; done) | omega | (simp; omega)) _ | refine below_drewN ?_ _ | refine Below.drew ?_))) (hb.mono (by first | omega | (simp; omega))); clear hs; clear hb)
    | (go_at_call 15; (with_reducible refine Calls.mono (combine_0 _ _ _) ?_); rintro e wz ⟨rfl, hb⟩; have hs := hB.size; replace hB := Below.trans (B := w.heap.size) (a := w) (by (repeat (first | assumption | exact Below.refl _ _ | refine Below.setCell ?_ (by first | (simp; done) | omega | (simp; omega)) _ | refine Below.alloc ?_ (by first | (simp; done) | omega | (simp; omega)) _ | refine below_drewN ?_ _ | refine Below.drew ?_))) (hb.mono (by first | omega | (simp; omega))); clear hs; clear hb)
    | (go_at_call 17; (with_reducible refine Calls.mono (told_0m _ _ _) ?_); rintro e wz ⟨rfl, hb⟩; have hs := hB.size; replace hB := Below.trans (B := w.heap.size) (a := w) (by (repeat (first | assumption | exact Below.refl _ _ | refine Below.setCell ?_ (by first | (simp; done) | omega | (simp; omega)) _ | refine Below.alloc ?_ (by first | (simp; done) | omega | (simp; omega)) _ | refine below_drewN ?_ _ | refine Below.drew ?_))) (hb.mono (by first | omega | (simp; omega))); clear hs; clear hb)
    | (go_at_call 16; (with_reducible refine Calls.mono (rcombine_0 _ _ _) ?_); rintro e wz ⟨rfl, hb⟩; have hs := hB.size; replace hB := Below.trans (B := w.heap.size) (a := w) (by (repeat (first | assumption | exact Below.refl _ _ | refine Below.setCell ?_ (by first | (simp; done) | omega | (simp; omega)) _ | refine Below.alloc ?_ (by first | (simp; done) | omega | (simp; omega)) _ | refine below_drewN ?_ _ | refine Below.drew ?_))) (hb.mono (by first | omega | (simp; omega))); clear hs; clear hb)
    | (go_at_call 13; (with_reducible refine Calls.mono (awake_any _ ?_) ?_); (exact Names.over HN (by assumption)); rintro e wz ⟨rfl, hb⟩; have hs := hB.size; replace hB := Below.trans (B := w.heap.size) (a := w) (by (repeat (first | assumption | exact Below.refl _ _ | refine Below.setCell ?_ (by first | (simp; done) | omega | (simp; omega)) _ | refine Below.alloc ?_ (by first | (simp; done) | omega | (simp; omega)) _ | refine below_drewN ?_ _ | refine Below.drew ?_))) (hb.mono (by first | omega | (simp; omega))); clear hs; clear hb))
  go_ret
  exact ⟨rfl, hB⟩

set_option maxRecDepth 100000 in
set_option maxHeartbeats 16000000 in
theorem StrengthMatches_n (l : List (Int × Int)) (b off cap : Nat) (n : Int) (w : World) (h0 : 0 < l.length) (hm : l.length ≤ 60) (hl : Ivs w b off l) (hN : Names w) :
    Calls Tryd.prog 3 #[.slice (some ⟨b, off, none⟩) l.length cap, .int .i64 n] w (Mk (.bool true) w) := by
  have HN := hide hN
  have HL := hide hl
  clear hN hl
  have hm2 : (l.length : Int) ≤ 60 := by omega
  go_enter Tryd.func3, Tryd.ntmps3
  go_wp2_with fail
  refine (given_any l b off cap w h0 hm HL.out).mono ?_
  rintro e w1 ⟨g, cg, rfl, hb1, hI1⟩
  have HG := hide hI1
  clear hI1
  go_wp2_with fail
  refine (combine_any l g 0 cg w1 (by omega) HG.out).mono ?_
  rintro e w2 ⟨rfl, hb2⟩
  replace HG := hide (HG.out.below hb2)
  have hB2 := hb1.trans (hb2.mono hb1.size)
  have HL2 := hide (HL.out.below hB2)
  clear hb1 hb2
  go_wp2_with fail
  refine (told_any l b off cap w2 h0 hm HL2.out).mono ?_
  rintro e w3 ⟨g2, cg2, rfl, hb3, hI3⟩
  have H3 := hide hI3
  replace HG := hide (HG.out.below hb3)
  have hB3 := hB2.trans (hb3.mono hB2.size)
  clear hI3 hb3 hB2 HL2
  go_wp2_with fail
  refine (rcombine_any l g2 0 cg2 w3 (by omega) H3.out).mono ?_
  rintro e w4 ⟨rfl, hb4⟩
  replace HG := hide (HG.out.below hb4)
  have hB4 := hide (hB3.trans (hb4.mono hB3.size))
  clear hb4 hB3 H3
  generalize cmbL l 0 = cl at *
  generalize cmbH l 0 = ch at *
  go_wp2_with fail
  go_loopw [6] (fun v wr => ∃ k : Nat, k ≤ l.length ∧ v = .int .i64 k ∧ Below w.heap.size w wr ∧ Ivs wr g 0 l) (fun v _ => l.length - (intOf v).toNat)
  case atStart => exact ⟨0, by omega, rfl, hB4.out, HG.out⟩
  case round =>
    clear HG hB4
    obtain ⟨k, hk, rfl, hB, hG⟩ := hrel
    by_cases hlt : k < l.length
    · obtain ⟨i1, i2⟩ := (HL.out.below hB) k hlt
      obtain ⟨j1, j2⟩ := hG k hlt
      rw [Nat.zero_add] at j1 j2
      obtain ⟨p, hp⟩ : ∃ p, p = (l.getD k (0, 0)).1 := ⟨_, rfl⟩
      obtain ⟨q, hq⟩ : ∃ q, q = (l.getD k (0, 0)).2 := ⟨_, rfl⟩
      rw [← hp] at i1 j1
      rw [← hq] at i2 j2
      have i3 := World.block_lt_of_cell? wr _ i1
      have j3 := World.block_lt_of_cell? wr _ j1
      have HG := hide hG
      have hk0 : (0 : Int) ≤ (k : Int) := by omega
      have hk1 : (k : Int) < (l.length : Int) := by omega
      clear hp hq hG
      have jc := hide (show C2 g (k * 2) p q wr from ⟨j3, j1, j2⟩)
      go_upto_region 9 with fail
      go_cut [7, 8] (Two wr p q p q)
      case first =>
        clear j1 j2
        refine region_anyT (S := fun w1 => Below wr.heap.size wr w1) (n := 11) (by kernel_rfl) (Below.refl _ _).drew (fun hS inv => ?_)
        refine anyT_take (i := 0) (oi := _) (v := .slice (some ⟨b, off, none⟩) l.length cap) rfl (by kernel_rfl) (by kernel_rfl) (by kernel_rfl) (by decide) (by decide) (by kernel_rfl) (by kernel_rfl) inv (fun _ _ _ h => h) (Or.inl ⟨by rfl, ?_⟩) hS (fun inv => ?_)
        · intro wz hSw
          go_simp
        (try simp only [Act.put, List.setIfInBounds_toArray, List.set_cons_zero, List.set_cons_succ])
        refine anyT_take (i := 1) (oi := _) (v := .int .i64 k) rfl (by kernel_rfl) (by kernel_rfl) (by kernel_rfl) (by decide) (by decide) (by kernel_rfl) (by kernel_rfl) inv (fun _ _ _ h => h) (Or.inl ⟨by rfl, ?_⟩) hS (fun inv => ?_)
        · intro wz hSw
          go_simp
        (try simp only [Act.put, List.setIfInBounds_toArray, List.set_cons_zero, List.set_cons_succ])
        refine anyT_take (i := 2) (oi := _) (v := .pointer (some ⟨b, off + k * 2, none⟩)) rfl (by kernel_rfl) (by kernel_rfl) (by kernel_rfl) (by decide) (by decide) (by kernel_rfl) (by kernel_rfl) inv (fun _ _ _ h => h) (Or.inl ⟨by rfl, ?_⟩) hS (fun inv => ?_)
        · intro wz hSw
          go_simp
        (try simp only [Act.put, List.setIfInBounds_toArray, List.set_cons_zero, List.set_cons_succ])
        refine anyT_take (i := 3) (oi := _) (v := .agg #[.int .i8 p, .int .i8 q]) rfl (by kernel_rfl) (by kernel_rfl) (by kernel_rfl) (by decide) (by decide) (by kernel_rfl) (by kernel_rfl) inv (fun _ _ _ h => h) (Or.inl ⟨by rfl, ?_⟩) hS (fun inv => ?_)
        · intro wz hSw
          have hk1 := (hSw : Below _ _ _).cell (p := ⟨b, off + k * 2, none⟩) (by assumption); have hk2 := (hSw : Below _ _ _).cell (p := ⟨b, off + k * 2 + 1, none⟩) (by assumption); go_simp
        (try simp only [Act.put, List.setIfInBounds_toArray, List.set_cons_zero, List.set_cons_succ])
        refine anyT_take (i := 4) (oi := _) (v := .slice (some ⟨b, off, none⟩) l.length cap) rfl (by kernel_rfl) (by kernel_rfl) (by kernel_rfl) (by decide) (by decide) (by kernel_rfl) (by kernel_rfl) inv (fun _ _ _ h => h) (Or.inl ⟨by rfl, ?_⟩) hS (fun inv => ?_)
        · intro wz hSw
          go_simp
        (try simp only [Act.put, List.setIfInBounds_toArray, List.set_cons_zero, List.set_cons_succ])
        refine anyT_take (i := 5) (oi := _) (v := .int .i64 k) rfl (by kernel_rfl) (by kernel_rfl) (by kernel_rfl) (by decide) (by decide) (by kernel_rfl) (by kernel_rfl) inv (fun _ _ _ h => h) (Or.inl ⟨by rfl, ?_⟩) hS (fun inv => ?_)
        · intro wz hSw
          go_simp
        (try simp only [Act.put, List.setIfInBounds_toArray, List.set_cons_zero, List.set_cons_succ])
        refine anyT_take (i := 6) (oi := _) (v := .pointer (some ⟨b, off + k * 2, none⟩)) rfl (by kernel_rfl) (by kernel_rfl) (by kernel_rfl) (by decide) (by decide) (by kernel_rfl) (by kernel_rfl) inv (fun _ _ _ h => h) (Or.inl ⟨by rfl, ?_⟩) hS (fun inv => ?_)
        · intro wz hSw
          go_simp
        (try simp only [Act.put, List.setIfInBounds_toArray, List.set_cons_zero, List.set_cons_succ])
        refine anyT_take (i := 7) (oi := _) (v := .agg #[.int .i8 p, .int .i8 q]) rfl (by kernel_rfl) (by kernel_rfl) (by kernel_rfl) (by decide) (by decide) (by kernel_rfl) (by kernel_rfl) inv (fun _ _ _ h => h) (Or.inl ⟨by rfl, ?_⟩) hS (fun inv => ?_)
        · intro wz hSw
          have hk1 := (hSw : Below _ _ _).cell (p := ⟨b, off + k * 2, none⟩) (by assumption); have hk2 := (hSw : Below _ _ _).cell (p := ⟨b, off + k * 2 + 1, none⟩) (by assumption); go_simp
        (try simp only [Act.put, List.setIfInBounds_toArray, List.set_cons_zero, List.set_cons_succ])
        have hzd : wr.heap.size ≤ wr.drew.heap.size := Nat.le_refl _
        generalize hdr : wr.drew = D0 at *
        clear hdr
        refine anyT_ready (rs := [8, 9]) (by kernel_rfl) (by simp) ?_
        refine ReadyT.head (o := _) rfl (by decide) (by kernel_rfl) inv (fun K hK => ?_) ?_
        · go_simp
          refine hK.out _ _ ?_ (fun hS inv => ?_)
          · exact (hS : Below wr.heap.size wr _).alloc (Below.size hS) _
          clear hK K
          (try simp only [Act.put, List.setIfInBounds_toArray, List.set_cons_zero, List.set_cons_succ])
          have e8 := hide (blk_new D0 (.cells #[.int .i8 0, .int .i8 0] 29))
          have hz0 : D0.heap.size < (D0.alloc (.cells #[.int .i8 0, .int .i8 0] 29)).heap.size := by simp
          generalize hdr : D0.alloc (.cells #[.int .i8 0, .int .i8 0] 29) = D1 at *
          clear hdr
          refine anyT_ready (rs := [9]) (by kernel_rfl) (by simp) ?_
          refine ReadyT.head (o := _) rfl (by decide) (by kernel_rfl) inv (fun K hK => ?_) ReadyT.nil
          go_simp
          refine hK.out _ _ ?_ (fun hS inv => ?_)
          · exact (hS : Below wr.heap.size wr _).alloc (Below.size hS) _
          clear hK K
          (try simp only [Act.put, List.setIfInBounds_toArray, List.set_cons_zero, List.set_cons_succ])
          have e9 := hide (blk_new D1 (.cells #[.int .i8 0, .int .i8 0] 28))
          replace e8 := hide (blk_alloc (x := (.cells #[.int .i8 0, .int .i8 0] 28)) e8.out)
          have hz1 : D1.heap.size < (D1.alloc (.cells #[.int .i8 0, .int .i8 0] 28)).heap.size := by simp
          generalize hdr : D1.alloc (.cells #[.int .i8 0, .int .i8 0] 28) = D2 at *
          clear hdr
          obtain ⟨qa8, qb8, qc8, qd8, qe8⟩ := blk2 e8.out
          obtain ⟨qa9, qb9, qc9, qd9, qe9⟩ := blk2 e9.out
          have ne01 : D0.heap.size ≠ D1.heap.size := by omega
          have ne10 : D1.heap.size ≠ D0.heap.size := by omega
          refine anyT_ready (rs := [10]) (by kernel_rfl) (by simp) ?_
          refine ReadyT.head (o := _) rfl (by decide) (by kernel_rfl) inv (fun K hK => ?_) ReadyT.nil
          go_simp
          refine hK.out _ _ ?_ (fun hS inv => ?_)
          · exact (hS : Below wr.heap.size wr _).setCell (by simp; omega) _ |>.setCell (by simp; omega) _
          clear hK K
          (try simp only [Act.put, List.setIfInBounds_toArray, List.set_cons_zero, List.set_cons_succ])
          refine anyT_ready (rs := [11]) (by kernel_rfl) (by simp) ?_
          refine ReadyT.tail (o := _) rfl (by decide) (fun K hK => ?_)
          go_simp
          refine hK.out _ _ ?_
          clear hK K
          (try simp only [Act.put, List.setIfInBounds_toArray, List.set_cons_zero, List.set_cons_succ])
          refine anyT_done (by kernel_rfl) ?_ _
          go_wp2_with fail
          go_meet
          exact ⟨D0.heap.size, D1.heap.size, rfl, rfl, (Below.setCell hS (by simp; omega) _).setCell (by simp; omega) _, At2.of_heap (blk_far (blk_far (blk2_set e8.out) ne01) ne01), At2.of_heap (blk2_set (blk_far (blk_far e9.out ne10) ne10))⟩
        refine ReadyT.head (o := _) rfl (by decide) (by kernel_rfl) inv (fun K hK => ?_) ReadyT.nil
        go_simp
        refine hK.out _ _ ?_ (fun hS inv => ?_)
        · exact (hS : Below wr.heap.size wr _).alloc (Below.size hS) _
        clear hK K
        (try simp only [Act.put, List.setIfInBounds_toArray, List.set_cons_zero, List.set_cons_succ])
        have e9 := hide (blk_new D0 (.cells #[.int .i8 0, .int .i8 0] 28))
        have hz0 : D0.heap.size < (D0.alloc (.cells #[.int .i8 0, .int .i8 0] 28)).heap.size := by simp
        generalize hdr : D0.alloc (.cells #[.int .i8 0, .int .i8 0] 28) = D1 at *
        clear hdr
        refine anyT_ready (rs := [8]) (by kernel_rfl) (by simp) ?_
        refine ReadyT.head (o := _) rfl (by decide) (by kernel_rfl) inv (fun K hK => ?_) ReadyT.nil
        go_simp
        refine hK.out _ _ ?_ (fun hS inv => ?_)
        · exact (hS : Below wr.heap.size wr _).alloc (Below.size hS) _
        clear hK K
        (try simp only [Act.put, List.setIfInBounds_toArray, List.set_cons_zero, List.set_cons_succ])
        have e8 := hide (blk_new D1 (.cells #[.int .i8 0, .int .i8 0] 29))
        replace e9 := hide (blk_alloc (x := (.cells #[.int .i8 0, .int .i8 0] 29)) e9.out)
        have hz1 : D1.heap.size < (D1.alloc (.cells #[.int .i8 0, .int .i8 0] 29)).heap.size := by simp
        generalize hdr : D1.alloc (.cells #[.int .i8 0, .int .i8 0] 29) = D2 at *
        clear hdr
        obtain ⟨qa8, qb8, qc8, qd8, qe8⟩ := blk2 e8.out
        obtain ⟨qa9, qb9, qc9, qd9, qe9⟩ := blk2 e9.out
        have ne01 : D1.heap.size ≠ D0.heap.size := by omega
        have ne10 : D0.heap.size ≠ D1.heap.size := by omega
        refine anyT_ready (rs := [10]) (by kernel_rfl) (by simp) ?_
        refine ReadyT.head (o := _) rfl (by decide) (by kernel_rfl) inv (fun K hK => ?_) ReadyT.nil
        go_simp
        refine hK.out _ _ ?_ (fun hS inv => ?_)
        · exact (hS : Below wr.heap.size wr _).setCell (by simp; omega) _ |>.setCell (by simp; omega) _
        clear hK K
        (try simp only [Act.put, List.setIfInBounds_toArray, List.set_cons_zero, List.set_cons_succ])
        refine anyT_ready (rs := [11]) (by kernel_rfl) (by simp) ?_
        refine ReadyT.tail (o := _) rfl (by decide) (fun K hK => ?_)
        go_simp
        refine hK.out _ _ ?_
        clear hK K
        (try simp only [Act.put, List.setIfInBounds_toArray, List.set_cons_zero, List.set_cons_succ])
        refine anyT_done (by kernel_rfl) ?_ _
        go_wp2_with fail
        go_meet
        exact ⟨D1.heap.size, D0.heap.size, rfl, rfl, (Below.setCell hS (by simp; omega) _).setCell (by simp; omega) _, At2.of_heap (blk_far (blk_far (blk2_set e8.out) ne01) ne01), At2.of_heap (blk2_set (blk_far (blk_far e9.out ne10) ne10))⟩
      case rest =>
        obtain ⟨N, M, rfl, rfl, hB1, hX, hY⟩ := hcut
        obtain ⟨V, hV⟩ : ∃ x, x = wc := ⟨_, rfl⟩
        rw [← hV]
        rw [← hV] at hX hY hB1
        clear hV i1 i2 i3 j1 j2 j3
        have jc2 := jc.out.below hB1
        have k0 : Below w.heap.size w V ∧ C2 g (k * 2) p q V ∧ At2 N p q V ∧ At2 M p q V := ⟨hB.trans (hB1.mono hB.size), jc2, hX, hY⟩
        have HG2 := hide (HG.out.below hB1)
        have HVG : Hid (∀ w', Below w.heap.size w w' → Ivs w' b off l) := fun w' h => HL.out.below h
        clear HG jc hB hB1 hX hY jc2
        have hz := k0.1.size
        have HK := hide k0
        obtain ⟨-, ⟨c1, c2, c3⟩, ⟨n1, n2, n3⟩, ⟨m1, m2, m3⟩⟩ := k0
        obtain ⟨x, hx⟩ : ∃ x, nLo p q = x := ⟨_, rfl⟩
        obtain ⟨y, hy⟩ : ∃ y, nHi p q = y := ⟨_, rfl⟩
        have Hx := Lib.hid hx
        have Hy := Lib.hid hy
        clear hx hy
        go_upto_region 10 with fail
        go_cut [72] (fun v wx => v = .bool false ∧ Below V.heap.size V wx)
        case first =>
          by_cases e1 : x = p
          · by_cases e2 : y = q
            · have hv : mVal p q = true := mVal_t ⟨by rw [Hx.out, e1], by rw [Hy.out, e2]⟩
              obtain rfl : p = x := e1.symm
              obtain rfl : q = y := e2.symm
              have HV := hide hv
              clear hv
              go_region_held3 (fun w' => Below V.heap.size V w' ∧ (g < w'.heap.size ∧ w'.cell? ⟨g, k * 2, none⟩ = some (.int .i8 p) ∧ w'.cell? ⟨g, k * 2 + 1, none⟩ = some (.int .i8 q)) ∧ (N < w'.heap.size ∧ w'.cell? ⟨N, 0, none⟩ = some (.int .i8 p) ∧ w'.cell? ⟨N, 1, none⟩ = some (.int .i8 q)) ∧ (M < w'.heap.size ∧ w'.cell? ⟨M, 0, none⟩ = some (.int .i8 p) ∧ w'.cell? ⟨M, 1, none⟩ = some (.int .i8 q)))
                (first
                  | exact ⟨(Below.refl _ _).drew, ⟨c1, c2, c3⟩, ⟨n1, n2, n3⟩, ⟨m1, m2, m3⟩⟩
                  | exact m3_call (by assumption) hb (Below.size (m3_bel (by assumption))))
                (first
                  | (go_at_call 18; (with_reducible refine (norm_r p q p q _ Hx.out Hy.out).mono ?_); rintro e wz ⟨rfl, hb⟩)
                  | (go_at_call 19; (with_reducible refine (rnorm_r p q p q _ Hx.out Hy.out).mono ?_); rintro e wz ⟨rfl, hb⟩)
                  | (go_at_call 20; (with_reducible refine (valid_r p q _ _ HV.out).mono ?_); rintro e wz ⟨rfl, hb⟩)
                  | (go_at_call 21; (with_reducible refine (read_any p q _).mono ?_); rintro e wz ⟨rfl, hb⟩)
                  | (go_at_call 22; (with_reducible refine (rread_any p q _).mono ?_); rintro e wz ⟨rfl, hb⟩)
                  | (go_at_call 23; (with_reducible refine (has_any p q n _).mono ?_); rintro e wz ⟨rfl, hb⟩)
                  | (go_at_call 24; (with_reducible refine (rhas_any p q n _).mono ?_); rintro e wz ⟨rfl, hb⟩))
              go_wp2_with fail
              go_meet
              exact ⟨rfl, m3_bel (by assumption)⟩
            · have hv : mVal p q = false := mVal_f (fun h => e2 (by rw [← Hy.out]; exact h.2.symm))
              obtain rfl : p = x := e1.symm
              have f2 : (y == q) = false := by simpa using e2
              have HV := hide hv
              clear hv e2
              go_region_held3 (fun w' => Below V.heap.size V w' ∧ (g < w'.heap.size ∧ w'.cell? ⟨g, k * 2, none⟩ = some (.int .i8 p) ∧ w'.cell? ⟨g, k * 2 + 1, none⟩ = some (.int .i8 q)) ∧ (N < w'.heap.size ∧ w'.cell? ⟨N, 0, none⟩ = some (.int .i8 p) ∧ w'.cell? ⟨N, 1, none⟩ = some (.int .i8 q)) ∧ (M < w'.heap.size ∧ w'.cell? ⟨M, 0, none⟩ = some (.int .i8 p) ∧ w'.cell? ⟨M, 1, none⟩ = some (.int .i8 q)))
                (first
                  | exact ⟨(Below.refl _ _).drew, ⟨c1, c2, c3⟩, ⟨n1, n2, n3⟩, ⟨m1, m2, m3⟩⟩
                  | exact m3_call (by assumption) hb (Below.size (m3_bel (by assumption))))
                (first
                  | (go_at_call 18; (with_reducible refine (norm_r p q p y _ Hx.out Hy.out).mono ?_); rintro e wz ⟨rfl, hb⟩)
                  | (go_at_call 19; (with_reducible refine (rnorm_r p q p y _ Hx.out Hy.out).mono ?_); rintro e wz ⟨rfl, hb⟩)
                  | (go_at_call 20; (with_reducible refine (valid_r p q _ _ HV.out).mono ?_); rintro e wz ⟨rfl, hb⟩)
                  | (go_at_call 21; (with_reducible refine (read_any p q _).mono ?_); rintro e wz ⟨rfl, hb⟩)
                  | (go_at_call 22; (with_reducible refine (rread_any p q _).mono ?_); rintro e wz ⟨rfl, hb⟩)
                  | (go_at_call 23; (with_reducible refine (has_any p q n _).mono ?_); rintro e wz ⟨rfl, hb⟩)
                  | (go_at_call 24; (with_reducible refine (rhas_any p q n _).mono ?_); rintro e wz ⟨rfl, hb⟩))
              go_wp2_with fail
              go_meet
              exact ⟨rfl, m3_bel (by assumption)⟩
          · have hv : mVal p q = false := mVal_f (fun h => e1 (by rw [← Hx.out]; exact h.1.symm))
            have f1 : (x == p) = false := by simpa using e1
            have HV := hide hv
            clear hv e1
            go_region_held3 (fun w' => Below V.heap.size V w' ∧ (g < w'.heap.size ∧ w'.cell? ⟨g, k * 2, none⟩ = some (.int .i8 p) ∧ w'.cell? ⟨g, k * 2 + 1, none⟩ = some (.int .i8 q)) ∧ (N < w'.heap.size ∧ w'.cell? ⟨N, 0, none⟩ = some (.int .i8 p) ∧ w'.cell? ⟨N, 1, none⟩ = some (.int .i8 q)) ∧ (M < w'.heap.size ∧ w'.cell? ⟨M, 0, none⟩ = some (.int .i8 p) ∧ w'.cell? ⟨M, 1, none⟩ = some (.int .i8 q)))
              (first
                | exact ⟨(Below.refl _ _).drew, ⟨c1, c2, c3⟩, ⟨n1, n2, n3⟩, ⟨m1, m2, m3⟩⟩
                | exact m3_call (by assumption) hb (Below.size (m3_bel (by assumption))))
              (first
                | (go_at_call 18; (with_reducible refine (norm_r p q x y _ Hx.out Hy.out).mono ?_); rintro e wz ⟨rfl, hb⟩)
                | (go_at_call 19; (with_reducible refine (rnorm_r p q x y _ Hx.out Hy.out).mono ?_); rintro e wz ⟨rfl, hb⟩)
                | (go_at_call 20; (with_reducible refine (valid_r p q _ _ HV.out).mono ?_); rintro e wz ⟨rfl, hb⟩)
                | (go_at_call 21; (with_reducible refine (read_any p q _).mono ?_); rintro e wz ⟨rfl, hb⟩)
                | (go_at_call 22; (with_reducible refine (rread_any p q _).mono ?_); rintro e wz ⟨rfl, hb⟩)
                | (go_at_call 23; (with_reducible refine (has_any p q n _).mono ?_); rintro e wz ⟨rfl, hb⟩)
                | (go_at_call 24; (with_reducible refine (rhas_any p q n _).mono ?_); rintro e wz ⟨rfl, hb⟩))
            go_wp2_with fail
            go_meet
            exact ⟨rfl, m3_bel (by assumption)⟩
        case rest =>
          obtain ⟨rfl, hB1⟩ := hcut
          have HB := hide (HK.out.1.trans (hB1.mono HK.out.1.size))
          have HG3 := hide (HG2.out.below hB1)
          clear HG2 HK hB1
          go_wp2_with fail
          go_roundw
          case rel => exact ⟨k + 1, by omega, by go_num, HB.out, HG3.out⟩
          case measure => simp [intOf]; omega
    · go_wp2_with ((go_at_call 13; (with_reducible refine Calls.mono (awake_any _ ?_) ?_); (exact HN.out.below hB); rintro e wz ⟨rfl, hb⟩))
      go_ret
      exact ⟨rfl, hB.trans (hb.mono hB.size)⟩

end Go.Proofs.YtiggmncjmkeboaaDoor
