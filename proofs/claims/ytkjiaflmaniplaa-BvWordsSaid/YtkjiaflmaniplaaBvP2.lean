/-
  The contract of the statements' helper spoil.
-/
import Derived.Test.YtkjiaflmaniplaaBvT
namespace Go.Proofs.Ytkjiaflmaniplaa
open Go.RowKit
set_option linter.unusedSimpArgs false
set_option linter.unusedVariables false

/-- A slice of bools in a row of the call's own, whatever it holds. -/
def Bls (B g : Nat) (w : World) (x : Option Addr × Nat × Nat) : Prop := 0 < x.2.1 → ∃ gi F, x.1 = some ⟨gi, 0, none⟩ ∧ B ≤ gi ∧ gi ≠ g ∧ RowF w gi x.2.1 F
theorem Bls.stored {B g : Nat} {w : World} {x : Option Addr × Nat × Nat} (h : Bls B g w x) (gj k : Nat) (v : Bool) : Bls B g (w.setCell ⟨gj, k, none⟩ (.bool v)) x := fun hn => by
  obtain ⟨gi, F, e, h1, h2, h3⟩ := h hn
  by_cases hg : gi = gj
  · subst hg; exact ⟨gi, _, e, h1, h2, h3.set_ k v⟩
  · exact ⟨gi, F, e, h1, h2, h3.far (by simpa using hg) _⟩
structure SpR (B g : Nat) (vs : List (Option Addr × Nat × Nat)) (w wr : World) : Prop where
  sls : Sls wr g vs
  bls : ∀ i (h : i < vs.length), Bls B g wr vs[i]
  bel : Below B w wr
theorem SpR.stored {B g : Nat} {vs : List (Option Addr × Nat × Nat)} {w wr : World} (h : SpR B g vs w wr) {gj k : Nat} (hB : B ≤ gj) (hg : gj ≠ g) (v : Bool) : SpR B g vs w (wr.setCell ⟨gj, k, none⟩ (.bool v)).drew where
  sls := fun i hi => by
    show (wr.setCell _ _).cell? _ = _
    rw [World.cell?_setCell_other _ _ _ _ (by intro e; injection e; omega)]
    exact h.sls i hi
  bls := fun i hi => (h.bls i hi).stored gj k v
  bel := (h.bel.setCell (by simpa using hB) _).drew

set_option maxHeartbeats 2000000 in
theorem spoil_any (B g c : Nat) (vs : List (Option Addr × Nat × Nat)) (w : World) (hv : vs.length ≤ 8) (hs : ∀ i (h : i < vs.length), vs[i].2.1 ≤ 4096) (h : SpR B g vs w w) :
    Calls Try.prog 25 #[.slice (some ⟨g, 0, none⟩) vs.length c] w fun e w' => e = .returned (.tuple #[]) ∧ Below B w w' := by
  have H := hide h
  have HS := hide hs
  clear h hs
  go_enter Try.func25, Try.ntmps25
  go_wp2
  go_loopw [2] (fun i wr => ∃ k : Nat, k ≤ vs.length ∧ i = .int .i64 k ∧ SpR B g vs w wr) (fun i _ => vs.length - (intOf i).toNat)
  case atStart => exact ⟨0, Nat.zero_le _, rfl, H.out⟩
  case round =>
    obtain ⟨k, hk, rfl, hR⟩ := hrel
    have hRH := hide hR
    clear hR
    by_cases hlt : k < vs.length
    · have hn4 := HS.out k hlt
      obtain ⟨x, hx⟩ : ∃ x, x = vs[k] := ⟨_, rfl⟩
      obtain ⟨A, n, cn⟩ := x
      rw [← hx] at hn4
      have hsl : Hid (∀ wr, SpR B g vs w wr → wr.cell? ⟨g, k, none⟩ = some (.slice A n cn)) := hide fun wr h => by have := h.sls k hlt; rw [← hx] at this; exact this
      have hbl : Hid (∀ wr, SpR B g vs w wr → Bls B g wr (A, n, cn)) := hide fun wr h => by have := h.bls k hlt; rw [← hx] at this; exact this
      clear hx
      simp only at hn4
      go_wp2
      go_loopw [3] (fun i wr => ∃ m : Nat, m ≤ n ∧ i = .int .i64 m ∧ SpR B g vs w wr) (fun i _ => n - (intOf i).toNat)
      case atStart => exact ⟨0, Nat.zero_le _, rfl, hRH.out⟩
      case round =>
        clear hRH
        obtain ⟨m, hm, rfl, hR⟩ := hrel
        have hRH := hide hR
        clear hR
        have hc := hsl.out _ hRH.out
        by_cases hmn : m < n
        · obtain ⟨gi, F, he, h1, h2, h3⟩ := hbl.out _ hRH.out (by simpa using Nat.lt_of_le_of_lt (Nat.zero_le _) hmn)
          simp only at he
          subst he
          have hcc := h3.cell (i := m) hmn
          have hff := h3.free m
          have H3 := hide h3
          clear h3
          go_wp2
          refine region_anyT (S := fun w1 => w1.cell? ⟨g, k, none⟩ = some (.slice (some ⟨gi, 0, none⟩) n cn) ∧ w1.cell? ⟨gi, m, none⟩ = some (.bool (F m))) (n := 14) (by kernel_rfl) ⟨hc, hcc⟩ (fun hS inv => ?_)
          refine anyT_take (i := 0) (oi := _) (v := .slice (some ⟨g, 0, none⟩) vs.length c) rfl (by kernel_rfl) (by kernel_rfl) (by kernel_rfl) (by decide) (by decide) (by kernel_rfl) (by kernel_rfl) inv (fun _ _ _ h => h) (Or.inl ⟨by kernel_rfl, ?_⟩) hS (fun inv => ?_)
          · intro wz hSw
            go_simp
          (try simp only [Act.put, List.setIfInBounds_toArray, List.set_cons_zero, List.set_cons_succ])
          refine anyT_take (i := 1) (oi := _) (v := .int .i64 k) rfl (by kernel_rfl) (by kernel_rfl) (by kernel_rfl) (by decide) (by decide) (by kernel_rfl) (by kernel_rfl) inv (fun _ _ _ h => h) (Or.inl ⟨by kernel_rfl, ?_⟩) hS (fun inv => ?_)
          · intro wz hSw
            go_simp
          (try simp only [Act.put, List.setIfInBounds_toArray, List.set_cons_zero, List.set_cons_succ])
          refine anyT_take (i := 2) (oi := _) (v := .pointer (some ⟨g, k, none⟩)) rfl (by kernel_rfl) (by kernel_rfl) (by kernel_rfl) (by decide) (by decide) (by kernel_rfl) (by kernel_rfl) inv (fun _ _ _ h => h) (Or.inl ⟨by kernel_rfl, ?_⟩) hS (fun inv => ?_)
          · intro wz hSw
            go_simp
          (try simp only [Act.put, List.setIfInBounds_toArray, List.set_cons_zero, List.set_cons_succ])
          refine anyT_take (i := 3) (oi := _) (v := .slice (some ⟨gi, 0, none⟩) n cn) rfl (by kernel_rfl) (by kernel_rfl) (by kernel_rfl) (by decide) (by decide) (by kernel_rfl) (by kernel_rfl) inv (fun _ _ _ h => h) (Or.inl ⟨by kernel_rfl, ?_⟩) hS (fun inv => ?_)
          · intro wz hSw
            obtain ⟨hSw, -⟩ := hSw; go_simp
          (try simp only [Act.put, List.setIfInBounds_toArray, List.set_cons_zero, List.set_cons_succ])
          refine anyT_take (i := 4) (oi := _) (v := .int .i64 m) rfl (by kernel_rfl) (by kernel_rfl) (by kernel_rfl) (by decide) (by decide) (by kernel_rfl) (by kernel_rfl) inv (fun _ _ _ h => h) (Or.inl ⟨by kernel_rfl, ?_⟩) hS (fun inv => ?_)
          · intro wz hSw
            go_simp
          (try simp only [Act.put, List.setIfInBounds_toArray, List.set_cons_zero, List.set_cons_succ])
          refine anyT_take (i := 5) (oi := _) (v := .slice (some ⟨g, 0, none⟩) vs.length c) rfl (by kernel_rfl) (by kernel_rfl) (by kernel_rfl) (by decide) (by decide) (by kernel_rfl) (by kernel_rfl) inv (fun _ _ _ h => h) (Or.inl ⟨by kernel_rfl, ?_⟩) hS (fun inv => ?_)
          · intro wz hSw
            go_simp
          (try simp only [Act.put, List.setIfInBounds_toArray, List.set_cons_zero, List.set_cons_succ])
          refine anyT_take (i := 6) (oi := _) (v := .int .i64 k) rfl (by kernel_rfl) (by kernel_rfl) (by kernel_rfl) (by decide) (by decide) (by kernel_rfl) (by kernel_rfl) inv (fun _ _ _ h => h) (Or.inl ⟨by kernel_rfl, ?_⟩) hS (fun inv => ?_)
          · intro wz hSw
            go_simp
          (try simp only [Act.put, List.setIfInBounds_toArray, List.set_cons_zero, List.set_cons_succ])
          refine anyT_take (i := 7) (oi := _) (v := .pointer (some ⟨g, k, none⟩)) rfl (by kernel_rfl) (by kernel_rfl) (by kernel_rfl) (by decide) (by decide) (by kernel_rfl) (by kernel_rfl) inv (fun _ _ _ h => h) (Or.inl ⟨by kernel_rfl, ?_⟩) hS (fun inv => ?_)
          · intro wz hSw
            go_simp
          (try simp only [Act.put, List.setIfInBounds_toArray, List.set_cons_zero, List.set_cons_succ])
          refine anyT_take (i := 8) (oi := _) (v := .slice (some ⟨gi, 0, none⟩) n cn) rfl (by kernel_rfl) (by kernel_rfl) (by kernel_rfl) (by decide) (by decide) (by kernel_rfl) (by kernel_rfl) inv (fun _ _ _ h => h) (Or.inl ⟨by kernel_rfl, ?_⟩) hS (fun inv => ?_)
          · intro wz hSw
            obtain ⟨hSw, -⟩ := hSw; go_simp
          (try simp only [Act.put, List.setIfInBounds_toArray, List.set_cons_zero, List.set_cons_succ])
          refine anyT_take (i := 9) (oi := _) (v := .int .i64 m) rfl (by kernel_rfl) (by kernel_rfl) (by kernel_rfl) (by decide) (by decide) (by kernel_rfl) (by kernel_rfl) inv (fun _ _ _ h => h) (Or.inl ⟨by kernel_rfl, ?_⟩) hS (fun inv => ?_)
          · intro wz hSw
            go_simp
          (try simp only [Act.put, List.setIfInBounds_toArray, List.set_cons_zero, List.set_cons_succ])
          refine anyT_take (i := 10) (oi := _) (v := .pointer (some ⟨gi, m, none⟩)) rfl (by kernel_rfl) (by kernel_rfl) (by kernel_rfl) (by decide) (by decide) (by kernel_rfl) (by kernel_rfl) inv (fun _ _ _ h => h) (Or.inl ⟨by kernel_rfl, ?_⟩) hS (fun inv => ?_)
          · intro wz hSw
            go_simp
          (try simp only [Act.put, List.setIfInBounds_toArray, List.set_cons_zero, List.set_cons_succ])
          refine anyT_take (i := 11) (oi := _) (v := .bool (F m)) rfl (by kernel_rfl) (by kernel_rfl) (by kernel_rfl) (by decide) (by decide) (by kernel_rfl) (by kernel_rfl) inv (fun _ _ _ h => h) (Or.inl ⟨by kernel_rfl, ?_⟩) hS (fun inv => ?_)
          · intro wz hSw
            obtain ⟨-, hSw⟩ := hSw; go_simp
          (try simp only [Act.put, List.setIfInBounds_toArray, List.set_cons_zero, List.set_cons_succ])
          refine anyT_take (i := 12) (oi := _) (v := .bool (!F m)) rfl (by kernel_rfl) (by kernel_rfl) (by kernel_rfl) (by decide) (by decide) (by kernel_rfl) (by kernel_rfl) inv (fun _ _ _ h => h) (Or.inl ⟨by kernel_rfl, ?_⟩) hS (fun inv => ?_)
          · intro wz hSw
            go_simp
          (try simp only [Act.put, List.setIfInBounds_toArray, List.set_cons_zero, List.set_cons_succ])
          refine anyT_take (i := 13) (oi := _) (v := .pointer (some ⟨gi, m, none⟩)) rfl (by kernel_rfl) (by kernel_rfl) (by kernel_rfl) (by decide) (by decide) (by kernel_rfl) (by kernel_rfl) inv (fun _ _ _ h => h) (Or.inl ⟨by kernel_rfl, ?_⟩) hS (fun inv => ?_)
          · intro wz hSw
            go_simp
          (try simp only [Act.put, List.setIfInBounds_toArray, List.set_cons_zero, List.set_cons_succ])
          refine anyT_ready (rs := [14]) (by kernel_rfl) (by simp) ?_
          refine ReadyT.tail (o := _) rfl (by decide) (fun K hK => ?_)
          go_simp
          refine hK.out _ _ ?_
          clear hK K
          (try simp only [Act.put, List.setIfInBounds_toArray, List.set_cons_zero, List.set_cons_succ])
          refine anyT_done (by kernel_rfl) ?_ _
          go_wp2
          go_roundw
          case rel => exact ⟨m + 1, by omega, by go_num, hRH.out.stored h1 h2 _⟩
          case measure => simp [intOf]; omega
        · go_wp2
          go_roundw
          case rel => exact ⟨k + 1, by omega, by go_num, hRH.out⟩
          case measure => simp [intOf]; omega
    · go_wp2
      go_end0
      exact ⟨rfl, hRH.out.bel⟩
end Go.Proofs.Ytkjiaflmaniplaa
