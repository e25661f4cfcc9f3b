/-
  The contract of awake: the chapter's examples hold.
-/
import Derived.Test.YtgaihbenlfeeeaaDoorStrC
import Derived.Test.YtgaihbenlfeeeaaDoorStrP
namespace Go.Proofs.YtgaihbenlfeeeaaDoor
open Go.RowKit
set_option linter.unusedSimpArgs false

theorem cell_new (w : World) (cs : Array Value) (t : TypeId) (i : Nat) : (w.alloc (.cells cs t)).cell? ⟨w.heap.size, i, none⟩ = cs[i]? := by
  have h := blk_new w (.cells cs t)
  unfold World.cell?
  simp only [h]
  rfl
theorem ivs_new1 (w : World) (a b : Int) (t : TypeId) : Ivs (w.alloc (.cells #[.int .i8 a, .int .i8 b] t)) w.heap.size 0 [(a, b)] := fun i hi => by
  match i, hi with
  | 0, _ => exact ⟨cell_new _ _ _ _, cell_new _ _ _ _⟩
theorem ivs_new2 (w : World) (a b c d : Int) (t : TypeId) : Ivs (w.alloc (.cells #[.int .i8 a, .int .i8 b, .int .i8 c, .int .i8 d] t)) w.heap.size 0 [(a, b), (c, d)] := fun i hi => by
  match i, hi with
  | 0, _ => exact ⟨cell_new _ _ _ _, cell_new _ _ _ _⟩
  | 1, _ => exact ⟨cell_new _ _ _ _, cell_new _ _ _ _⟩
theorem ivs_new3 (w : World) (a b c d e f : Int) (t : TypeId) : Ivs (w.alloc (.cells #[.int .i8 a, .int .i8 b, .int .i8 c, .int .i8 d, .int .i8 e, .int .i8 f] t)) w.heap.size 0 [(a, b), (c, d), (e, f)] := fun i hi => by
  match i, hi with
  | 0, _ => exact ⟨cell_new _ _ _ _, cell_new _ _ _ _⟩
  | 1, _ => exact ⟨cell_new _ _ _ _, cell_new _ _ _ _⟩
  | 2, _ => exact ⟨cell_new _ _ _ _, cell_new _ _ _ _⟩

theorem comb1_r (a b x y : Int) (w : World) (t : TypeId) (hx : cmbL [(a, b)] 0 = x) (hy : cmbH [(a, b)] 0 = y) :
    Calls Tryd.prog 15 #[.slice (some ⟨w.heap.size, 0, none⟩) 1 1] (w.alloc (.cells #[.int .i8 a, .int .i8 b] t)) (Mk (iv x y) (w.alloc (.cells #[.int .i8 a, .int .i8 b] t))) := by
  have h := combine_any [(a, b)] w.heap.size 0 1 _ (by simp) (ivs_new1 w a b t)
  rw [hx, hy] at h; exact h
theorem comb2_r (a b c d x y : Int) (w : World) (t : TypeId) (hx : cmbL [(a, b), (c, d)] 0 = x) (hy : cmbH [(a, b), (c, d)] 0 = y) :
    Calls Tryd.prog 15 #[.slice (some ⟨w.heap.size, 0, none⟩) 2 2] (w.alloc (.cells #[.int .i8 a, .int .i8 b, .int .i8 c, .int .i8 d] t)) (Mk (iv x y) (w.alloc (.cells #[.int .i8 a, .int .i8 b, .int .i8 c, .int .i8 d] t))) := by
  have h := combine_any [(a, b), (c, d)] w.heap.size 0 2 _ (by simp) (ivs_new2 w a b c d t)
  rw [hx, hy] at h; exact h
theorem comb3_r (a b c d e f x y : Int) (w : World) (t : TypeId) (hx : cmbL [(a, b), (c, d), (e, f)] 0 = x) (hy : cmbH [(a, b), (c, d), (e, f)] 0 = y) :
    Calls Tryd.prog 15 #[.slice (some ⟨w.heap.size, 0, none⟩) 3 3] (w.alloc (.cells #[.int .i8 a, .int .i8 b, .int .i8 c, .int .i8 d, .int .i8 e, .int .i8 f] t)) (Mk (iv x y) (w.alloc (.cells #[.int .i8 a, .int .i8 b, .int .i8 c, .int .i8 d, .int .i8 e, .int .i8 f] t))) := by
  have h := combine_any [(a, b), (c, d), (e, f)] w.heap.size 0 3 _ (by simp) (ivs_new3 w a b c d e f t)
  rw [hx, hy] at h; exact h
theorem drive_r (b s t x y : Int) (w : World) (h0 : 0 ≤ s) (h1 : 0 ≤ t) (hx : dLo b s t = x) (hy : dHi b s t = y) :
    Calls Tryd.prog 25 #[.int .u8 b, .int .u8 s, .int .u8 t] w (Mk (iv x y) w) := by
  have h := drive_any b s t w h0 h1
  rw [hx, hy] at h; exact h
theorem read_r (a b x : Int) (w : World) (hx : mRead a b = x) : Calls Tryd.prog 21 #[iv a b] w (Mk (.int .u8 x) w) := by
  have h := read_any a b w
  rw [hx] at h; exact h
theorem name_r (s : Int) (v : Bool) (x : ByteArray) (w : World) (h0 : 0 ≤ s) (hN : Names w) (hx : nmF s v = x) : Calls Tryd.prog 27 #[.int .u8 s, .bool v] w (Gives (.string x) w) := by
  have h := name_any s v w h0 hN
  rw [hx] at h; exact h
theorem name_m (s : Int) (v : Bool) (x : ByteArray) (w : World) (h0 : 0 ≤ s) (hN : Names w) (hx : nmF s v = x) : Calls Tryd.prog 27 #[.int .u8 s, .bool v] w (Mk (.string x) w) :=
  (name_r s v x w h0 hN hx).mono fun _ _ ⟨he, n, hw⟩ => ⟨he, by rw [hw]; exact below_drewN (Below.refl _ _) _⟩
theorem parse_r (name : ByteArray) (s : Int) (v k : Bool) (w : World) (hN : Names w) (hx : Tri name = .tuple #[.int .u8 s, .bool v, .bool k]) :
    Calls Tryd.prog 29 #[.string name] w (Gives (.tuple #[.int .u8 s, .bool v, .bool k]) w) := by
  have h := parse_any name w hN
  rw [hx] at h; exact h
theorem tri_highz0 : Tri ⟨#[104, 105, 103, 104, 122, 48]⟩ = .tuple #[.int .u8 0, .bool false, .bool true] := hit_0 (k := 0) (NoHit.zero _) (by decide) (by decide)
theorem pull1_str : nmF 5 true = ⟨#[112, 117, 108, 108, 49]⟩ := by decide

theorem awS_call {w w' w2 : World} {N : Nat} {x y : Value} (h : Below w.heap.size w w' ∧ N < w'.heap.size ∧ w'.cell? ⟨N, 0, none⟩ = some x ∧ w'.cell? ⟨N, 1, none⟩ = some y) (hb : Below w'.heap.size w' w2) :
    Below w.heap.size w w2 ∧ N < w2.heap.size ∧ w2.cell? ⟨N, 0, none⟩ = some x ∧ w2.cell? ⟨N, 1, none⟩ = some y := by
  obtain ⟨h1, h2, h3, h4⟩ := h
  exact ⟨h1.trans (hb.mono h1.size), Nat.lt_of_lt_of_le h2 hb.size, (hb.cell (p := ⟨N, 0, none⟩) h2).trans h3, (hb.cell (p := ⟨N, 1, none⟩) h2).trans h4⟩
theorem awS_bel {w w' : World} {N : Nat} {x y : Value} (h : Below w.heap.size w w' ∧ N < w'.heap.size ∧ w'.cell? ⟨N, 0, none⟩ = some x ∧ w'.cell? ⟨N, 1, none⟩ = some y) : Below w.heap.size w w' := h.1
theorem awS_alloc {w w' : World} {N : Nat} {x y : Value} (h : Below w.heap.size w w' ∧ N < w'.heap.size ∧ w'.cell? ⟨N, 0, none⟩ = some x ∧ w'.cell? ⟨N, 1, none⟩ = some y) (o : Obj) :
    Below w.heap.size w (w'.alloc o) ∧ N < (w'.alloc o).heap.size ∧ (w'.alloc o).cell? ⟨N, 0, none⟩ = some x ∧ (w'.alloc o).cell? ⟨N, 1, none⟩ = some y :=
  awS_call h ((Below.refl _ _).alloc (Nat.le_refl _) _)

set_option maxRecDepth 100000 in
set_option maxHeartbeats 4000000 in
theorem awake_any (w : World) (hN : Names w) : Calls Tryd.prog 13 #[] w (Mk (.bool true) w) := by
  have HN := hide hN
  clear hN
  go_enter Tryd.func13, Tryd.ntmps13
  have B0 : Below w.heap.size w w := Below.refl _ _
  go_wp2_with fail
  refine (parse_r _ 0 false true _ HN.out tri_highz0).mono ?_
  rintro e w1 ⟨rfl, n1, hw1⟩
  have h1 : Below w.heap.size w w1 := by rw [hw1]; exact below_drewN (Below.refl _ _) _
  clear hw1
  have B1 : Below w.heap.size w w1 := B0.trans (h1.mono B0.size)
  clear B0 h1
  go_wp2_with fail
  refine (to_any (5) (5) _).mono ?_
  rintro e w2 ⟨rfl, h2⟩
  have B2 : Below w.heap.size w w2 := B1.trans (h2.mono B1.size)
  clear B1 h2
  go_wp2_with fail
  refine (to_any (-5) (-5) _).mono ?_
  rintro e w3 ⟨rfl, h3⟩
  have B3 : Below w.heap.size w w3 := B2.trans (h3.mono B2.size)
  clear B2 h3
  go_wp2_with fail
  refine (comb2_r (5) (5) (-5) (-5) (-5) (5) _ _ (by decide) (by decide)).mono ?_
  rintro e w4 ⟨rfl, h4⟩
  have B4 : Below w.heap.size w w4 := (B3.alloc B3.size _).trans (h4.mono (by have := B3.size; simp; omega))
  clear B3 h4
  have K4 := hide (blk_new w4 (.cells #[.int .i8 (-5), .int .i8 5] 29))
  go_wp2_with fail
  obtain ⟨kx, ky, kf, kg, kz⟩ := blk2 K4.out
  have B := B4.alloc B4.size (.cells #[.int .i8 (-5), .int .i8 5] 29)
  clear B4 K4
  generalize hWW : w4.alloc (.cells #[.int .i8 (-5), .int .i8 5] 29) = W at *
  clear hWW
  generalize hNN : w4.heap.size = N at *
  clear hNN
  simp only [List.append_eq, List.cons_append, List.nil_append]
  go_region_held3 (fun w' => Below w.heap.size w w' ∧ N < w'.heap.size ∧ w'.cell? ⟨N, 0, none⟩ = some (.int .i8 (-5)) ∧ w'.cell? ⟨N, 1, none⟩ = some (.int .i8 5))
    (first
      | (exact ⟨B.drew, kz, kx, ky⟩)
      | (exact awS_call (by assumption) hb)
      | (exact awS_alloc (by assumption) _))
    (first
      | (go_at_call 31; (with_reducible refine (to_any _ _ _).mono ?_); rintro e wz ⟨rfl, hb⟩)
      | (go_at_call 25; (with_reducible refine (drive_r 1 6 5 5 5 _ (by decide) (by decide) (by decide) (by decide)).mono ?_); rintro e wz ⟨rfl, hb⟩)
      | (go_at_call 25; (with_reducible refine (drive_r 2 6 5 (-6) 5 _ (by decide) (by decide) (by decide) (by decide)).mono ?_); rintro e wz ⟨rfl, hb⟩)
      | (go_at_call 21; (with_reducible refine (read_r (-5) 5 2 _ (by decide)).mono ?_); rintro e wz ⟨rfl, hb⟩)
      | (go_at_call 21; (with_reducible refine (read_r 6 6 1 _ (by decide)).mono ?_); rintro e wz ⟨rfl, hb⟩)
      | (go_at_call 21; (with_reducible refine (read_r 0 0 3 _ (by decide)).mono ?_); rintro e wz ⟨rfl, hb⟩)
      | (go_at_call 21; (with_reducible refine (read_r 0 3 2 _ (by decide)).mono ?_); rintro e wz ⟨rfl, hb⟩)
      | (go_at_call 21; (with_reducible refine (read_r 1 3 1 _ (by decide)).mono ?_); rintro e wz ⟨rfl, hb⟩)
      | (go_at_call 15; (with_reducible refine (comb2_r (-5) 5 6 6 6 6 _ _ (by decide) (by decide)).mono ?_); rintro e wz ⟨rfl, hb⟩)
      | (go_at_call 15; (with_reducible refine (comb2_r 3 5 (-4) (-4) (-4) 5 _ _ (by decide) (by decide)).mono ?_); rintro e wz ⟨rfl, hb⟩)
      | (go_at_call 27; (with_reducible refine Calls.mono (name_m 5 true _ _ (by decide) ?_ pull1_str) ?_); (exact HN.out.below (awS_bel (by assumption))); rintro e wz ⟨rfl, hb⟩))
  go_wp2_with fail
  go_ret
  exact ⟨rfl, awS_bel (by assumption)⟩

end Go.Proofs.YtgaihbenlfeeeaaDoor
