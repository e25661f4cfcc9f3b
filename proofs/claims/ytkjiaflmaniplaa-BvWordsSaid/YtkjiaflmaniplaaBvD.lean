/-
  The contracts of package bv's addition.
-/
import Derived.Test.YtkjiaflmaniplaaBvC
import Derived.StillTailTactics
namespace Go.Proofs.Ytkjiaflmaniplaa
open Go.RowKit
set_option linter.unusedSimpArgs false
set_option linter.unusedVariables false

theorem Cry.far {w : World} {g : Nat} {b : Bool} (h : Cry w g b) {p : Addr} (hp : g ≠ p.block) (u : Value) : Cry (w.setCell p u) g b := by
  unfold Cry at *; rw [heap_setCell_other w p g u hp]; exact h
theorem Cry.set_ {w : World} {g : Nat} {b : Bool} (h : Cry w g b) (c : Bool) : Cry (w.setCell ⟨g, 0, none⟩ (.bool c)) g c := one_setCell h
theorem Cry.new (w : World) (b : Bool) : Cry (w.alloc (.cells #[.bool b] 4)) w.heap.size b := heap_alloc_new w _
theorem Cry.lt {w : World} {g : Nat} {b : Bool} (h : Cry w g b) : g < w.heap.size := lt_of_block h

/-- The row in the middle of an addition onto its part from p on. -/
def Mid (p k : Nat) (F : Nat → Bool) (y : Nat → Bool) (j : Nat) : Bool := if j < p then F j else if j < p + k then sb false (fun i => F (p + i)) y (j - p) else F j
theorem Mid.zero (p : Nat) (F y : Nat → Bool) (j : Nat) : Mid p 0 F y j = F j := by unfold Mid; split <;> (try split) <;> first | rfl | omega
theorem Mid.step (p k : Nat) (F y : Nat → Bool) (j : Nat) : (if j = p + k then F (p + k) != (y k != cy false (fun i => F (p + i)) y k) else Mid p k F y j) = Mid p (k + 1) F y j := by
  unfold Mid
  by_cases h : j = p + k
  · subst h
    rw [if_pos rfl, if_neg (by omega), if_pos (by omega)]
    simp [sb]
  · rw [if_neg h]
    by_cases h1 : j < p
    · simp [h1]
    · by_cases h2 : j < p + k
      · rw [if_neg h1, if_pos h2, if_neg h1, if_pos (by omega)]
      · rw [if_neg h1, if_neg h2, if_neg h1, if_neg (by omega)]
theorem Mid.at_ (p k : Nat) (F y : Nat → Bool) : Mid p k F y (p + k) = F (p + k) := by unfold Mid; rw [if_neg (by omega), if_neg (by omega)]

/-- What a round of addTo leaves. -/
structure AddR (w : World) (g n p k : Nat) (F y : Nat → Bool) (wr : World) : Prop where
  row : RowF wr g n (Mid p k F y)
  cry : Cry wr w.heap.size (cy false (fun i => F (p + i)) y k)
  bel : Below g w wr
theorem AddR.step {w wr : World} {g n p k : Nat} {F y : Nat → Bool} (h : AddR w g n p k F y wr) (hg : g < w.heap.size) (hk : p + k < n) :
    AddR w g n p (k + 1) F y ((wr.setCell ⟨w.heap.size, 0, none⟩ (.bool ((F (p + k) && y k) || ((F (p + k) != y k) && cy false (fun i => F (p + i)) y k)))).setCell ⟨g, p + k, none⟩ (.bool (F (p + k) != (y k != cy false (fun i => F (p + i)) y k)))) where
  row := ((h.row.far (p := ⟨w.heap.size, 0, none⟩) (by simp; omega) _).set_ (p + k) _).congr fun j _ => Mid.step p k F y j
  cry := (h.cry.set_ _).far (by simp; omega) _
  bel := (h.bel.setCell (by simp; omega) _).setCell (by simp) _
theorem AddR.drew {w wr : World} {g n p k : Nat} {F y : Nat → Bool} (h : AddR w g n p k F y wr) : AddR w g n p k F y wr.drew := ⟨h.row.drew, h.cry, h.bel.drew⟩

set_option maxHeartbeats 2000000 in
theorem addTo_any (g n p m c : Nat) (F : Nat → Bool) (B : Option Addr) (b : List Bool) (d : Nat) (w : World) (hm : m ≤ 4096) (hpm : p + m = n) (hb : b.length ≤ 4096) (hrow : RowF w g n F) (hB : 0 < b.length → ∃ ad, B = some ad ∧ ad.block < g ∧ ∀ i, i < b.length → w.cell? (ad.add i) = some (.bool (bt b i))) :
    Calls Try.prog 54 #[.slice (some ⟨g, p, none⟩) m c, .slice B b.length d] w fun e w' => e = .returned (.tuple #[]) ∧ RowF w' g n (Mid p m F (bt b)) ∧ Below g w w' := by
  have HB := hide hB
  have HR := hide hrow
  clear hB hrow
  have hgs : g < w.heap.size := HR.out.lt
  have HP := hide hpm
  clear hpm
  go_enter Try.func54, Try.ntmps54
  go_wp2_with (go_at_call 55; (with_reducible refine (full_any _ _).mono ?_); rintro e w' ⟨rfl, rfl⟩)
  go_loopw [9] (fun i wr => ∃ k : Nat, k ≤ m ∧ i = .int .i64 k ∧ AddR w g n p k F (bt b) wr) (fun i _ => m - (intOf i).toNat)
  case atStart =>
    exact ⟨0, Nat.zero_le _, rfl, ⟨(HR.out.alloc _).congr fun j _ => (Mid.zero p F (bt b) j).symm, Cry.new _ _, (Below.refl _ _).alloc (by omega) _⟩⟩
  case round =>
    obtain ⟨k, hk, rfl, hR⟩ := hrel
    by_cases hlt : k < m
    · have hpk : p + k < n := by have := HP.out; omega
      have hRH := hide hR
      have hc : wr.cell? ⟨g, p + k, none⟩ = some (.bool (F (p + k))) := by rw [hR.row.cell hpk, Mid.at_]
      have hf : wr.frozen? ⟨g, p + k, none⟩ = false := hR.row.free _
      have hRd : Hid (Rd wr B b) := hide fun h0 => by
        obtain ⟨ad, e, h1, h2⟩ := HB.out h0
        exact ⟨ad, e, Nat.lt_of_lt_of_le (by omega) hR.bel.size, fun i hi => (hR.bel.cell (p := ad.add i) (by rw [block_of_add]; exact h1)).trans (h2 i hi)⟩
      have hcl : Hid (Cry wr w.heap.size _) := hide hR.cry
      clear hR
      go_wp2
      refine region_anyT (S := fun w1 => w1.cell? ⟨g, p + k, none⟩ = some (.bool (F (p + k)))) (n := 12) (by kernel_rfl) hc (fun hS inv => ?_)
      refine anyT_take (i := 0) (oi := _) (v := .slice (some ⟨g, p, none⟩) m c) rfl (by kernel_rfl) (by kernel_rfl) (by kernel_rfl) (by decide) (by decide) (by kernel_rfl) (by kernel_rfl) inv (fun _ _ _ h => h) (Or.inl ⟨by kernel_rfl, ?_⟩) hS (fun inv => ?_)
      · intro wz hSw
        go_simp
      (try simp only [Act.put, List.setIfInBounds_toArray, List.set_cons_zero, List.set_cons_succ])
      refine anyT_take (i := 1) (oi := _) (v := .int .i64 k) rfl (by kernel_rfl) (by kernel_rfl) (by kernel_rfl) (by decide) (by decide) (by kernel_rfl) (by kernel_rfl) inv (fun _ _ _ h => h) (Or.inl ⟨by kernel_rfl, ?_⟩) hS (fun inv => ?_)
      · intro wz hSw
        go_simp
      (try simp only [Act.put, List.setIfInBounds_toArray, List.set_cons_zero, List.set_cons_succ])
      refine anyT_take (i := 2) (oi := _) (v := .func (.func 72) #[] #[.pointer (some ⟨w.heap.size, 0, none⟩)]) rfl (by kernel_rfl) (by kernel_rfl) (by kernel_rfl) (by decide) (by decide) (by kernel_rfl) (by kernel_rfl) inv (fun _ _ _ h => h) (Or.inl ⟨by kernel_rfl, ?_⟩) hS (fun inv => ?_)
      · intro wz hSw
        go_simp
      (try simp only [Act.put, List.setIfInBounds_toArray, List.set_cons_zero, List.set_cons_succ])
      refine anyT_take (i := 3) (oi := _) (v := .slice (some ⟨g, p, none⟩) m c) rfl (by kernel_rfl) (by kernel_rfl) (by kernel_rfl) (by decide) (by decide) (by kernel_rfl) (by kernel_rfl) inv (fun _ _ _ h => h) (Or.inl ⟨by kernel_rfl, ?_⟩) hS (fun inv => ?_)
      · intro wz hSw
        go_simp
      (try simp only [Act.put, List.setIfInBounds_toArray, List.set_cons_zero, List.set_cons_succ])
      refine anyT_take (i := 4) (oi := _) (v := .int .i64 k) rfl (by kernel_rfl) (by kernel_rfl) (by kernel_rfl) (by decide) (by decide) (by kernel_rfl) (by kernel_rfl) inv (fun _ _ _ h => h) (Or.inl ⟨by kernel_rfl, ?_⟩) hS (fun inv => ?_)
      · intro wz hSw
        go_simp
      (try simp only [Act.put, List.setIfInBounds_toArray, List.set_cons_zero, List.set_cons_succ])
      refine anyT_take (i := 5) (oi := _) (v := .pointer (some ⟨g, p + k, none⟩)) rfl (by kernel_rfl) (by kernel_rfl) (by kernel_rfl) (by decide) (by decide) (by kernel_rfl) (by kernel_rfl) inv (fun _ _ _ h => h) (Or.inl ⟨by kernel_rfl, ?_⟩) hS (fun inv => ?_)
      · intro wz hSw
        go_simp
      (try simp only [Act.put, List.setIfInBounds_toArray, List.set_cons_zero, List.set_cons_succ])
      refine anyT_take (i := 6) (oi := _) (v := .bool (F (p + k))) rfl (by kernel_rfl) (by kernel_rfl) (by kernel_rfl) (by decide) (by decide) (by kernel_rfl) (by kernel_rfl) inv (fun _ _ _ h => h) (Or.inl ⟨by kernel_rfl, ?_⟩) hS (fun inv => ?_)
      · intro wz hSw
        have hSw : wz.cell? ⟨g, p + k, none⟩ = some (.bool (F (p + k))) := hSw; go_simp
      (try simp only [Act.put, List.setIfInBounds_toArray, List.set_cons_zero, List.set_cons_succ])
      refine anyT_take (i := 7) (oi := _) (v := .slice B b.length d) rfl (by kernel_rfl) (by kernel_rfl) (by kernel_rfl) (by decide) (by decide) (by kernel_rfl) (by kernel_rfl) inv (fun _ _ _ h => h) (Or.inl ⟨by kernel_rfl, ?_⟩) hS (fun inv => ?_)
      · intro wz hSw
        go_simp
      (try simp only [Act.put, List.setIfInBounds_toArray, List.set_cons_zero, List.set_cons_succ])
      refine anyT_take (i := 8) (oi := _) (v := .int .i64 k) rfl (by kernel_rfl) (by kernel_rfl) (by kernel_rfl) (by decide) (by decide) (by kernel_rfl) (by kernel_rfl) inv (fun _ _ _ h => h) (Or.inl ⟨by kernel_rfl, ?_⟩) hS (fun inv => ?_)
      · intro wz hSw
        go_simp
      (try simp only [Act.put, List.setIfInBounds_toArray, List.set_cons_zero, List.set_cons_succ])
      refine anyT_ready (rs := [9]) (by kernel_rfl) (by simp) ?_
      refine ReadyT.head (o := _) rfl (by decide) (by kernel_rfl) inv (fun K hK => ?_) ReadyT.nil
      go_simp
      refine (ext_any B b d k false wr.drew hb (by omega) hRd.out).mono ?_
      rintro e wz ⟨rfl, rfl⟩
      rw [ex_false]
      go_wp2_with fail
      refine hK.out _ _ ?_ (fun hS inv => ?_)
      · exact hc
      clear hK K
      (try simp only [Act.put, List.setIfInBounds_toArray, List.set_cons_zero, List.set_cons_succ])
      refine anyT_ready (rs := [10]) (by kernel_rfl) (by simp) ?_
      refine ReadyT.head (o := _) rfl (by decide) (by kernel_rfl) inv (fun K hK => ?_) ReadyT.nil
      go_simp
      refine (clo_any (F (p + k)) (bt b k) (cy false (fun i => F (p + i)) (bt b) k) w.heap.size wr.drew hcl.out).mono ?_
      rintro e wz ⟨rfl, rfl⟩
      go_wp2_with fail
      refine hK.out _ _ ?_ (fun hS inv => ?_)
      · show (wr.setCell _ _).cell? _ = _; rw [World.cell?_setCell_other _ _ _ _ (by intro h; injection h; omega)]; exact hc
      clear hK K
      (try simp only [Act.put, List.setIfInBounds_toArray, List.set_cons_zero, List.set_cons_succ])
      refine anyT_take (i := 11) (oi := _) (v := .pointer (some ⟨g, p + k, none⟩)) rfl (by kernel_rfl) (by kernel_rfl) (by kernel_rfl) (by decide) (by decide) (by kernel_rfl) (by kernel_rfl) inv (fun _ _ _ h => h) (Or.inl ⟨by kernel_rfl, ?_⟩) hS (fun inv => ?_)
      · intro wz hSw
        go_simp
      (try simp only [Act.put, List.setIfInBounds_toArray, List.set_cons_zero, List.set_cons_succ])
      have hf2 : (wr.drew.setCell ⟨w.heap.size, 0, none⟩ (.bool ((F (p + k) && bt b k) || ((F (p + k) != bt b k) && cy false (fun i => F (p + i)) (bt b) k)))).frozen? ⟨g, p + k, none⟩ = false := (hRH.out.row.far (p := ⟨w.heap.size, 0, none⟩) (by simp; omega) _).free _
      refine anyT_ready (rs := [12]) (by kernel_rfl) (by simp) ?_
      refine ReadyT.tail (o := _) rfl (by decide) (fun K hK => ?_)
      go_simp
      refine hK.out _ _ ?_
      clear hK K
      (try simp only [Act.put, List.setIfInBounds_toArray, List.set_cons_zero, List.set_cons_succ])
      refine anyT_done (by kernel_rfl) ?_ _
      go_wp2
      go_roundw
      case rel => exact ⟨k + 1, by omega, by go_num, (hRH.out.step hgs hpk).drew⟩
      case measure => simp [intOf]; omega
    · have hR' := hide hR
      clear hR
      go_wp2
      go_end0
      have e : k = m := by omega
      subst e
      exact ⟨rfl, hR'.out.row, hR'.out.bel⟩
end Go.Proofs.Ytkjiaflmaniplaa
