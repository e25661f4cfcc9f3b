/-
  Texts of MC joined (VecO, VecI2, VecAW).
-/
import Derived.Test.YtkfifkijcknikaaDoorMC4
set_option linter.unusedVariables false
set_option linter.unusedSimpArgs false
set_option linter.unusedSectionVars false
namespace Go.Proofs.YtkfifkijcknikaaDoor
section
open Go.RowKit
set_option maxRecDepth 100000
set_option linter.unusedSimpArgs false
set_option linter.unusedVariables false
/-- A function value that compares two bits. -/
structure Alike (N : Nat) (f : Int → Int → Bool) : Prop where
  cf : Ent N
  ct : ∀ p q w, Calls Tryd.prog N #[.int .u8 p, .int .u8 q] w fun e w' => e = .returned (.bool (f p q)) ∧ w = w'
theorem alike_same : Alike 50 mSame := ⟨Tryd.call50, fun p q w => (same_q p q w).mono fun e w' h => ⟨h.1, h.2.symm⟩⟩
theorem alike_z : Alike 52 alZ := by
  refine ⟨Tryd.call52, fun p q w => ?_⟩
  unfold alZ
  cases h1 : (p == 3) <;> cases h2 : (q == 3)
  all_goals
    go_enter Tryd.func52, Tryd.ntmps52
    go_wp2_with (go_at_call 50; (with_reducible refine (same_q _ _ _).mono ?_); rintro e w' ⟨rfl, rfl⟩)
    go_ret
    exact ⟨by simp, rfl⟩
theorem alike_x : Alike 53 alX := by
  refine ⟨Tryd.call53, fun p q w => ?_⟩
  unfold alX
  have hp := hide fun w => known_q p w
  have hq := hide fun w => known_q q w
  cases h1 : mKnown p <;> cases h2 : mKnown q <;> rw [h1] at hp <;> rw [h2] at hq
  all_goals
    clear h1 h2
    go_enter Tryd.func53, Tryd.ntmps53
    go_wp2_with (first
      | (go_at_call 50; (with_reducible refine (same_q _ _ _).mono ?_); rintro e w' ⟨rfl, rfl⟩)
      | (go_at_call 54; (with_reducible refine (hp.out _).mono ?_); rintro e w' ⟨rfl, rfl⟩)
      | (go_at_call 54; (with_reducible refine (hq.out _).mono ?_); rintro e w' ⟨rfl, rfl⟩))
    go_ret
    exact ⟨by simp, rfl⟩
set_option maxHeartbeats 2000000 in
theorem match_any (N : Nat) (f : Int → Int → Bool) (hop : Alike N f) (A B : Option Addr) (a b : List Int) (c d : Nat) (s t : Bool) (w : World) (ha : a.length ≤ 4096) (hb : b.length ≤ 4096) (hca : Hid (a.length ≤ c ∧ c ≤ maxLen)) (hcb : Hid (b.length ≤ d ∧ d ≤ maxLen)) (hA : RQ w A a) (hB : RQ w B b) (ya : By a) (yb : By b) :
    Calls Tryd.prog 49 #[.agg #[.slice A a.length c, .bool s], .agg #[.slice B b.length d, .bool t], .func (.func N) #[] #[]] w (Mk (.bool (mtc f ⟨a, s⟩ ⟨b, t⟩)) w) := by
  have hcf : ∀ args w, (callFunc N args).run Tryd.prog w = .ok (.enter N args) w := hop.cf
  have HO := hide hop
  have hwd := wd_bd (a := ⟨a, s⟩) (b := ⟨b, t⟩) ya yb
  have HA := hide hA
  have HBB := hide hB
  have LA := hide ha
  have LB := hide hb
  have YA := hide ya
  have YB := hide yb
  clear hA hB ha hb ya yb
  clear hop
  obtain ⟨n, hn⟩ : ∃ n, n = wd ⟨a, s⟩ ⟨b, t⟩ := ⟨_, rfl⟩
  have hcall := hide fun W (hW : Below w.heap.size w W) => balance_any A B a b c d s t W LA.out LB.out hca hcb (HA.out.below hW) (HBB.out.below hW) YA.out YB.out
  unfold RetB at hcall
  obtain ⟨σ, hσ⟩ : ∃ σ, σ = sg ⟨a, s⟩ ⟨b, t⟩ := ⟨_, rfl⟩
  rw [← hσ] at hcall
  obtain ⟨R, hR⟩ : ∃ R, R = mtc f ⟨a, s⟩ ⟨b, t⟩ := ⟨_, rfl⟩
  rw [← hR]
  have hR2 : R = true ↔ ∀ i, i < n → f (qt (blA ⟨a, s⟩ ⟨b, t⟩) i) (qt (blB ⟨a, s⟩ ⟨b, t⟩) i) = true := by rw [hR, hn]; exact mtc_iff _ _ _
  rw [← hn] at hwd
  have HN := hide hn
  have HR := hide hR2
  clear hn hσ hR hR2
  go_enter Tryd.func49, Tryd.ntmps49
  go_wp2_with fail
  refine (hcall.out _ (by (repeat (first | with_reducible exact Below.refl _ _ | with_reducible assumption | with_reducible refine Below.setCell ?_ (by first | (simp; done) | omega | (simp; omega)) _ | with_reducible refine Below.alloc ?_ (by first | (simp; done) | omega | (simp; omega)) _ | with_reducible refine below_drewN ?_ _ | with_reducible refine Below.drew ?_)))).mono ?_
  rintro e w1 ⟨p, P, pc, q, Q, qc, Ep, Eq, rfl, Cp, Cq, Op, Oq, -, hb⟩
  have hB1 : Below w.heap.size w w1 := Below.trans (by (repeat (first | with_reducible exact Below.refl _ _ | with_reducible assumption | with_reducible refine Below.setCell ?_ (by first | (simp; done) | omega | (simp; omega)) _ | with_reducible refine Below.alloc ?_ (by first | (simp; done) | omega | (simp; omega)) _ | with_reducible refine below_drewN ?_ _ | with_reducible refine Below.drew ?_))) (hb.mono (by first | omega | (simp; done) | (simp; omega)))
  obtain ⟨kc1, kf1⟩ := bcell hb
  have hz1 := hb.size
  (try simp at hz1)
  have n1_0 : w.heap.size < w1.heap.size := by omega
  have n1_1 : w.heap.size + 1 < w1.heap.size := by omega
  clear hb
  have lp : p.length = n := by rw [Ep.out, blA_length, HN.out]
  have lq : q.length = n := by rw [Eq.out, blB_length, HN.out]
  rw [← Ep.out, ← Eq.out] at HR
  obtain ⟨g, rfl, hg, hgr⟩ := Op.out (by omega)
  obtain ⟨h, rfl, hh, hhr⟩ := Oq.out (by omega)
  have HG := hide hgr
  have HH := hide hhr
  have hgl := hgr.lt
  have hhl := hhr.lt
  rw [lp] at HG ⊢
  rw [lq] at HH ⊢
  clear hgr hhr lp lq Op Oq hg hh
  go_wp2_with fail
  go_loopw [20] (fun i wr => ∃ k : Nat, k ≤ n ∧ i = .int .i64 k ∧ Hid (∀ j, j < k → f (qt p j) (qt q j) = true) ∧ ∃ m, wr = w1.drewN m) (fun i _ => n - (intOf i).toNat)
  case atStart => exact ⟨0, Nat.zero_le _, rfl, hide fun j hj => by omega, 0, rfl⟩
  case round =>
    obtain ⟨k, hk, rfl, hno, m, rfl⟩ := hrel
    by_cases hlt : k < n
    · have hc1 : (w1.drewN m).cell? ⟨g, k, none⟩ = some (.int .u8 (qt p k)) := HG.out.cell hlt
      have hc2 : (w1.drewN m).cell? ⟨h, k, none⟩ = some (.int .u8 (qt q k)) := HH.out.cell hlt
      go_wp2_with fail
      have hcl := hide (HO.out.ct (qt p k) (qt q k) (w1.drewN m).drew)
      cases hx : f (qt p k) (qt q k)
      · rw [hx] at hcl
        have hx2 := hide hx
        clear hx
        refine region_anyT (S := fun wS => Below (w1.drewN m).heap.size (w1.drewN m) wS) (n := 10) (by kernel_rfl) (Below.refl _ _).drew (fun hS inv => ?_)
        refine anyT_take (i := 0) (oi := _) (v := Value.func (Fn.func N) #[] #[]) rfl (by kernel_rfl) (by kernel_rfl) (by kernel_rfl) (by decide) (by decide) (by kernel_rfl) (by kernel_rfl) inv (fun _ _ _ h => h) (Or.inl ⟨by kernel_rfl, ?_⟩) hS (fun inv => ?_)
        · intro wz hSw
          first | kernel_rfl | go_simp
        (try simp only [Act.put, List.getElem_toArray, List.getElem_cons_zero, List.getElem_cons_succ, List.setIfInBounds_toArray, List.set_cons_zero, List.set_cons_succ])
        refine anyT_take (i := 1) (oi := _) (v := Value.slice (some ⟨g, 0, none⟩) n pc) rfl (by kernel_rfl) (by kernel_rfl) (by kernel_rfl) (by decide) (by decide) (by kernel_rfl) (by kernel_rfl) inv (fun _ _ _ h => h) (Or.inl ⟨by kernel_rfl, ?_⟩) hS (fun inv => ?_)
        · intro wz hSw
          first | kernel_rfl | go_simp
        (try simp only [Act.put, List.getElem_toArray, List.getElem_cons_zero, List.getElem_cons_succ, List.setIfInBounds_toArray, List.set_cons_zero, List.set_cons_succ])
        refine anyT_take (i := 2) (oi := _) (v := Value.int IntKind.i64 ↑k) rfl (by kernel_rfl) (by kernel_rfl) (by kernel_rfl) (by decide) (by decide) (by kernel_rfl) (by kernel_rfl) inv (fun _ _ _ h => h) (Or.inl ⟨by kernel_rfl, ?_⟩) hS (fun inv => ?_)
        · intro wz hSw
          first | kernel_rfl | go_simp
        (try simp only [Act.put, List.getElem_toArray, List.getElem_cons_zero, List.getElem_cons_succ, List.setIfInBounds_toArray, List.set_cons_zero, List.set_cons_succ])
        refine anyT_take (i := 3) (oi := _) (v := Value.pointer (some ⟨g, k, none⟩)) rfl (by kernel_rfl) (by kernel_rfl) (by kernel_rfl) (by decide) (by decide) (by kernel_rfl) (by kernel_rfl) inv (fun _ _ _ h => h) (Or.inl ⟨by kernel_rfl, ?_⟩) hS (fun inv => ?_)
        · intro wz hSw
          go_simp
        (try simp only [Act.put, List.getElem_toArray, List.getElem_cons_zero, List.getElem_cons_succ, List.setIfInBounds_toArray, List.set_cons_zero, List.set_cons_succ])
        refine anyT_take (i := 4) (oi := _) (v := Value.int IntKind.u8 (qt p k)) rfl (by kernel_rfl) (by kernel_rfl) (by kernel_rfl) (by decide) (by decide) (by kernel_rfl) (by kernel_rfl) inv (fun _ _ _ h => h) (Or.inl ⟨by kernel_rfl, ?_⟩) hS (fun inv => ?_)
        · intro wz hSw
          have hk0 := (hSw : Below _ _ _).cell (p := ⟨g, k, none⟩) (by first | assumption | (simp; done) | omega | (simp; omega)); go_simp
        (try simp only [Act.put, List.getElem_toArray, List.getElem_cons_zero, List.getElem_cons_succ, List.setIfInBounds_toArray, List.set_cons_zero, List.set_cons_succ])
        refine anyT_take (i := 5) (oi := _) (v := Value.slice (some ⟨h, 0, none⟩) n qc) rfl (by kernel_rfl) (by kernel_rfl) (by kernel_rfl) (by decide) (by decide) (by kernel_rfl) (by kernel_rfl) inv (fun _ _ _ h => h) (Or.inl ⟨by kernel_rfl, ?_⟩) hS (fun inv => ?_)
        · intro wz hSw
          first | kernel_rfl | go_simp
        (try simp only [Act.put, List.getElem_toArray, List.getElem_cons_zero, List.getElem_cons_succ, List.setIfInBounds_toArray, List.set_cons_zero, List.set_cons_succ])
        refine anyT_take (i := 6) (oi := _) (v := Value.int IntKind.i64 ↑k) rfl (by kernel_rfl) (by kernel_rfl) (by kernel_rfl) (by decide) (by decide) (by kernel_rfl) (by kernel_rfl) inv (fun _ _ _ h => h) (Or.inl ⟨by kernel_rfl, ?_⟩) hS (fun inv => ?_)
        · intro wz hSw
          first | kernel_rfl | go_simp
        (try simp only [Act.put, List.getElem_toArray, List.getElem_cons_zero, List.getElem_cons_succ, List.setIfInBounds_toArray, List.set_cons_zero, List.set_cons_succ])
        refine anyT_take (i := 7) (oi := _) (v := Value.pointer (some ⟨h, k, none⟩)) rfl (by kernel_rfl) (by kernel_rfl) (by kernel_rfl) (by decide) (by decide) (by kernel_rfl) (by kernel_rfl) inv (fun _ _ _ h => h) (Or.inl ⟨by kernel_rfl, ?_⟩) hS (fun inv => ?_)
        · intro wz hSw
          go_simp
        (try simp only [Act.put, List.getElem_toArray, List.getElem_cons_zero, List.getElem_cons_succ, List.setIfInBounds_toArray, List.set_cons_zero, List.set_cons_succ])
        refine anyT_take (i := 8) (oi := _) (v := Value.int IntKind.u8 (qt q k)) rfl (by kernel_rfl) (by kernel_rfl) (by kernel_rfl) (by decide) (by decide) (by kernel_rfl) (by kernel_rfl) inv (fun _ _ _ h => h) (Or.inl ⟨by kernel_rfl, ?_⟩) hS (fun inv => ?_)
        · intro wz hSw
          have hk0 := (hSw : Below _ _ _).cell (p := ⟨h, k, none⟩) (by first | assumption | (simp; done) | omega | (simp; omega)); go_simp
        (try simp only [Act.put, List.getElem_toArray, List.getElem_cons_zero, List.getElem_cons_succ, List.setIfInBounds_toArray, List.set_cons_zero, List.set_cons_succ])
        refine anyT_ready (rs := [9]) (by kernel_rfl) (by simp) ?_
        refine ReadyT.head (o := _) rfl (by decide) (by kernel_rfl) inv (fun K hK => ?_) ReadyT.nil
        go_simp
        refine (hcl.out).mono ?_
        rintro e w' ⟨rfl, rfl⟩
        go_wp2_with fail
        refine hK.out _ _ ?_ (fun hS inv => ?_)
        · exact hS
        clear hK K
        (try simp only [Act.put, List.getElem_toArray, List.getElem_cons_zero, List.getElem_cons_succ, List.setIfInBounds_toArray, List.set_cons_zero, List.set_cons_succ])
        refine anyT_ready (rs := [10]) (by kernel_rfl) (by simp) ?_
        refine ReadyT.tail (o := _) rfl (by decide) (fun K hK => ?_)
        go_simp
        refine hK.out _ _ ?_
        clear hK K
        (try simp only [Act.put, List.getElem_toArray, List.getElem_cons_zero, List.getElem_cons_succ, List.setIfInBounds_toArray, List.set_cons_zero, List.set_cons_succ])
        refine anyT_done (by kernel_rfl) ?_ _
        go_wp2
        go_ret
        refine ⟨ret_bool ?_, by (repeat (first | with_reducible exact Below.refl _ _ | with_reducible assumption | with_reducible refine Below.setCell ?_ (by first | (simp; done) | omega | (simp; omega)) _ | with_reducible refine Below.alloc ?_ (by first | (simp; done) | omega | (simp; omega)) _ | with_reducible refine below_drewN ?_ _ | with_reducible refine Below.drew ?_))⟩
        cases hr : R
        · rfl
        · have := HR.out.1 hr k hlt
          rw [hx2.out] at this
          cases this
      · rw [hx] at hcl
        have hx2 := hide hx
        clear hx
        refine region_anyT (S := fun wS => Below (w1.drewN m).heap.size (w1.drewN m) wS) (n := 10) (by kernel_rfl) (Below.refl _ _).drew (fun hS inv => ?_)
        refine anyT_take (i := 0) (oi := _) (v := Value.func (Fn.func N) #[] #[]) rfl (by kernel_rfl) (by kernel_rfl) (by kernel_rfl) (by decide) (by decide) (by kernel_rfl) (by kernel_rfl) inv (fun _ _ _ h => h) (Or.inl ⟨by kernel_rfl, ?_⟩) hS (fun inv => ?_)
        · intro wz hSw
          first | kernel_rfl | go_simp
        (try simp only [Act.put, List.getElem_toArray, List.getElem_cons_zero, List.getElem_cons_succ, List.setIfInBounds_toArray, List.set_cons_zero, List.set_cons_succ])
        refine anyT_take (i := 1) (oi := _) (v := Value.slice (some ⟨g, 0, none⟩) n pc) rfl (by kernel_rfl) (by kernel_rfl) (by kernel_rfl) (by decide) (by decide) (by kernel_rfl) (by kernel_rfl) inv (fun _ _ _ h => h) (Or.inl ⟨by kernel_rfl, ?_⟩) hS (fun inv => ?_)
        · intro wz hSw
          first | kernel_rfl | go_simp
        (try simp only [Act.put, List.getElem_toArray, List.getElem_cons_zero, List.getElem_cons_succ, List.setIfInBounds_toArray, List.set_cons_zero, List.set_cons_succ])
        refine anyT_take (i := 2) (oi := _) (v := Value.int IntKind.i64 ↑k) rfl (by kernel_rfl) (by kernel_rfl) (by kernel_rfl) (by decide) (by decide) (by kernel_rfl) (by kernel_rfl) inv (fun _ _ _ h => h) (Or.inl ⟨by kernel_rfl, ?_⟩) hS (fun inv => ?_)
        · intro wz hSw
          first | kernel_rfl | go_simp
        (try simp only [Act.put, List.getElem_toArray, List.getElem_cons_zero, List.getElem_cons_succ, List.setIfInBounds_toArray, List.set_cons_zero, List.set_cons_succ])
        refine anyT_take (i := 3) (oi := _) (v := Value.pointer (some ⟨g, k, none⟩)) rfl (by kernel_rfl) (by kernel_rfl) (by kernel_rfl) (by decide) (by decide) (by kernel_rfl) (by kernel_rfl) inv (fun _ _ _ h => h) (Or.inl ⟨by kernel_rfl, ?_⟩) hS (fun inv => ?_)
        · intro wz hSw
          go_simp
        (try simp only [Act.put, List.getElem_toArray, List.getElem_cons_zero, List.getElem_cons_succ, List.setIfInBounds_toArray, List.set_cons_zero, List.set_cons_succ])
        refine anyT_take (i := 4) (oi := _) (v := Value.int IntKind.u8 (qt p k)) rfl (by kernel_rfl) (by kernel_rfl) (by kernel_rfl) (by decide) (by decide) (by kernel_rfl) (by kernel_rfl) inv (fun _ _ _ h => h) (Or.inl ⟨by kernel_rfl, ?_⟩) hS (fun inv => ?_)
        · intro wz hSw
          have hk0 := (hSw : Below _ _ _).cell (p := ⟨g, k, none⟩) (by first | assumption | (simp; done) | omega | (simp; omega)); go_simp
        (try simp only [Act.put, List.getElem_toArray, List.getElem_cons_zero, List.getElem_cons_succ, List.setIfInBounds_toArray, List.set_cons_zero, List.set_cons_succ])
        refine anyT_take (i := 5) (oi := _) (v := Value.slice (some ⟨h, 0, none⟩) n qc) rfl (by kernel_rfl) (by kernel_rfl) (by kernel_rfl) (by decide) (by decide) (by kernel_rfl) (by kernel_rfl) inv (fun _ _ _ h => h) (Or.inl ⟨by kernel_rfl, ?_⟩) hS (fun inv => ?_)
        · intro wz hSw
          first | kernel_rfl | go_simp
        (try simp only [Act.put, List.getElem_toArray, List.getElem_cons_zero, List.getElem_cons_succ, List.setIfInBounds_toArray, List.set_cons_zero, List.set_cons_succ])
        refine anyT_take (i := 6) (oi := _) (v := Value.int IntKind.i64 ↑k) rfl (by kernel_rfl) (by kernel_rfl) (by kernel_rfl) (by decide) (by decide) (by kernel_rfl) (by kernel_rfl) inv (fun _ _ _ h => h) (Or.inl ⟨by kernel_rfl, ?_⟩) hS (fun inv => ?_)
        · intro wz hSw
          first | kernel_rfl | go_simp
        (try simp only [Act.put, List.getElem_toArray, List.getElem_cons_zero, List.getElem_cons_succ, List.setIfInBounds_toArray, List.set_cons_zero, List.set_cons_succ])
        refine anyT_take (i := 7) (oi := _) (v := Value.pointer (some ⟨h, k, none⟩)) rfl (by kernel_rfl) (by kernel_rfl) (by kernel_rfl) (by decide) (by decide) (by kernel_rfl) (by kernel_rfl) inv (fun _ _ _ h => h) (Or.inl ⟨by kernel_rfl, ?_⟩) hS (fun inv => ?_)
        · intro wz hSw
          go_simp
        (try simp only [Act.put, List.getElem_toArray, List.getElem_cons_zero, List.getElem_cons_succ, List.setIfInBounds_toArray, List.set_cons_zero, List.set_cons_succ])
        refine anyT_take (i := 8) (oi := _) (v := Value.int IntKind.u8 (qt q k)) rfl (by kernel_rfl) (by kernel_rfl) (by kernel_rfl) (by decide) (by decide) (by kernel_rfl) (by kernel_rfl) inv (fun _ _ _ h => h) (Or.inl ⟨by kernel_rfl, ?_⟩) hS (fun inv => ?_)
        · intro wz hSw
          have hk0 := (hSw : Below _ _ _).cell (p := ⟨h, k, none⟩) (by first | assumption | (simp; done) | omega | (simp; omega)); go_simp
        (try simp only [Act.put, List.getElem_toArray, List.getElem_cons_zero, List.getElem_cons_succ, List.setIfInBounds_toArray, List.set_cons_zero, List.set_cons_succ])
        refine anyT_ready (rs := [9]) (by kernel_rfl) (by simp) ?_
        refine ReadyT.head (o := _) rfl (by decide) (by kernel_rfl) inv (fun K hK => ?_) ReadyT.nil
        go_simp
        refine (hcl.out).mono ?_
        rintro e w' ⟨rfl, rfl⟩
        go_wp2_with fail
        refine hK.out _ _ ?_ (fun hS inv => ?_)
        · exact hS
        clear hK K
        (try simp only [Act.put, List.getElem_toArray, List.getElem_cons_zero, List.getElem_cons_succ, List.setIfInBounds_toArray, List.set_cons_zero, List.set_cons_succ])
        refine anyT_ready (rs := [10]) (by kernel_rfl) (by simp) ?_
        refine ReadyT.tail (o := _) rfl (by decide) (fun K hK => ?_)
        go_simp
        refine hK.out _ _ ?_
        clear hK K
        (try simp only [Act.put, List.getElem_toArray, List.getElem_cons_zero, List.getElem_cons_succ, List.setIfInBounds_toArray, List.set_cons_zero, List.set_cons_succ])
        refine anyT_done (by kernel_rfl) ?_ _
        go_wp2
        go_roundw
        case rel => exact ⟨k + 1, by omega, by go_num, hide fun j hj => by
          by_cases e : j = k
          · subst e; exact hx2.out
          · exact hno.out j (by omega), _, rfl⟩
        case measure => simp [intOf]; omega
    · go_wp2
      go_ret
      refine ⟨ret_bool ?_, by (repeat (first | with_reducible exact Below.refl _ _ | with_reducible assumption | with_reducible refine Below.setCell ?_ (by first | (simp; done) | omega | (simp; omega)) _ | with_reducible refine Below.alloc ?_ (by first | (simp; done) | omega | (simp; omega)) _ | with_reducible refine below_drewN ?_ _ | with_reducible refine Below.drew ?_))⟩
      exact (HR.out.2 fun i hi => hno.out i (by omega)).symm
theorem vMatchZ_any (A B : Option Addr) (a b : List Int) (c d : Nat) (s t : Bool) (w : World) (ha : a.length ≤ 4096) (hb : b.length ≤ 4096) (hca : Hid (a.length ≤ c ∧ c ≤ maxLen)) (hcb : Hid (b.length ≤ d ∧ d ≤ maxLen)) (hA : RQ w A a) (hB : RQ w B b) (ya : By a) (yb : By b) :
    Calls Tryd.prog 19 #[.agg #[.slice A a.length c, .bool s], .agg #[.slice B b.length d, .bool t]] w (Mk (.bool (mtc alZ ⟨a, s⟩ ⟨b, t⟩)) w) := by
  have HA := hide hA
  have HBB := hide hB
  have LA := hide ha
  have LB := hide hb
  have YA := hide ya
  have YB := hide yb
  clear hA hB ha hb ya yb
  go_enter Tryd.func19, Tryd.ntmps19
  go_wp2_with fail
  refine (match_any _ _ alike_z A B a b c d s t _ LA.out LB.out hca hcb (HA.out.below (by (repeat (first | with_reducible exact Below.refl _ _ | with_reducible assumption | with_reducible refine Below.setCell ?_ (by first | (simp; done) | omega | (simp; omega)) _ | with_reducible refine Below.alloc ?_ (by first | (simp; done) | omega | (simp; omega)) _ | with_reducible refine below_drewN ?_ _ | with_reducible refine Below.drew ?_)))) (HBB.out.below (by (repeat (first | with_reducible exact Below.refl _ _ | with_reducible assumption | with_reducible refine Below.setCell ?_ (by first | (simp; done) | omega | (simp; omega)) _ | with_reducible refine Below.alloc ?_ (by first | (simp; done) | omega | (simp; omega)) _ | with_reducible refine below_drewN ?_ _ | with_reducible refine Below.drew ?_)))) YA.out YB.out).mono ?_
  rintro e w1 ⟨rfl, hb⟩
  have hB1 : Below w.heap.size w w1 := Below.trans (by (repeat (first | with_reducible exact Below.refl _ _ | with_reducible assumption | with_reducible refine Below.setCell ?_ (by first | (simp; done) | omega | (simp; omega)) _ | with_reducible refine Below.alloc ?_ (by first | (simp; done) | omega | (simp; omega)) _ | with_reducible refine below_drewN ?_ _ | with_reducible refine Below.drew ?_))) (hb.mono (by first | omega | (simp; done) | (simp; omega)))
  obtain ⟨kc1, kf1⟩ := bcell hb
  have hz1 := hb.size
  (try simp at hz1)
  have n1_0 : w.heap.size < w1.heap.size := by omega
  have n1_1 : w.heap.size + 1 < w1.heap.size := by omega
  clear hb
  go_wp2
  go_ret
  exact ⟨rfl, by (repeat (first | with_reducible exact Below.refl _ _ | with_reducible assumption | with_reducible refine Below.setCell ?_ (by first | (simp; done) | omega | (simp; omega)) _ | with_reducible refine Below.alloc ?_ (by first | (simp; done) | omega | (simp; omega)) _ | with_reducible refine below_drewN ?_ _ | with_reducible refine Below.drew ?_))⟩
theorem vMatchX_any (A B : Option Addr) (a b : List Int) (c d : Nat) (s t : Bool) (w : World) (ha : a.length ≤ 4096) (hb : b.length ≤ 4096) (hca : Hid (a.length ≤ c ∧ c ≤ maxLen)) (hcb : Hid (b.length ≤ d ∧ d ≤ maxLen)) (hA : RQ w A a) (hB : RQ w B b) (ya : By a) (yb : By b) :
    Calls Tryd.prog 20 #[.agg #[.slice A a.length c, .bool s], .agg #[.slice B b.length d, .bool t]] w (Mk (.bool (mtc alX ⟨a, s⟩ ⟨b, t⟩)) w) := by
  have HA := hide hA
  have HBB := hide hB
  have LA := hide ha
  have LB := hide hb
  have YA := hide ya
  have YB := hide yb
  clear hA hB ha hb ya yb
  go_enter Tryd.func20, Tryd.ntmps20
  go_wp2_with fail
  refine (match_any _ _ alike_x A B a b c d s t _ LA.out LB.out hca hcb (HA.out.below (by (repeat (first | with_reducible exact Below.refl _ _ | with_reducible assumption | with_reducible refine Below.setCell ?_ (by first | (simp; done) | omega | (simp; omega)) _ | with_reducible refine Below.alloc ?_ (by first | (simp; done) | omega | (simp; omega)) _ | with_reducible refine below_drewN ?_ _ | with_reducible refine Below.drew ?_)))) (HBB.out.below (by (repeat (first | with_reducible exact Below.refl _ _ | with_reducible assumption | with_reducible refine Below.setCell ?_ (by first | (simp; done) | omega | (simp; omega)) _ | with_reducible refine Below.alloc ?_ (by first | (simp; done) | omega | (simp; omega)) _ | with_reducible refine below_drewN ?_ _ | with_reducible refine Below.drew ?_)))) YA.out YB.out).mono ?_
  rintro e w1 ⟨rfl, hb⟩
  have hB1 : Below w.heap.size w w1 := Below.trans (by (repeat (first | with_reducible exact Below.refl _ _ | with_reducible assumption | with_reducible refine Below.setCell ?_ (by first | (simp; done) | omega | (simp; omega)) _ | with_reducible refine Below.alloc ?_ (by first | (simp; done) | omega | (simp; omega)) _ | with_reducible refine below_drewN ?_ _ | with_reducible refine Below.drew ?_))) (hb.mono (by first | omega | (simp; done) | (simp; omega)))
  obtain ⟨kc1, kf1⟩ := bcell hb
  have hz1 := hb.size
  (try simp at hz1)
  have n1_0 : w.heap.size < w1.heap.size := by omega
  have n1_1 : w.heap.size + 1 < w1.heap.size := by omega
  clear hb
  go_wp2
  go_ret
  exact ⟨rfl, by (repeat (first | with_reducible exact Below.refl _ _ | with_reducible assumption | with_reducible refine Below.setCell ?_ (by first | (simp; done) | omega | (simp; omega)) _ | with_reducible refine Below.alloc ?_ (by first | (simp; done) | omega | (simp; omega)) _ | with_reducible refine below_drewN ?_ _ | with_reducible refine Below.drew ?_))⟩
theorem vCaseEq_any (A B : Option Addr) (a b : List Int) (c d : Nat) (s t : Bool) (w : World) (ha : a.length ≤ 4096) (hb : b.length ≤ 4096) (hca : Hid (a.length ≤ c ∧ c ≤ maxLen)) (hcb : Hid (b.length ≤ d ∧ d ≤ maxLen)) (hA : RQ w A a) (hB : RQ w B b) (ya : By a) (yb : By b) :
    Calls Tryd.prog 17 #[.agg #[.slice A a.length c, .bool s], .agg #[.slice B b.length d, .bool t]] w (RetC (· = vCase ⟨a, s⟩ ⟨b, t⟩) w) := by
  have HA := hide hA
  have HBB := hide hB
  have LA := hide ha
  have LB := hide hb
  have YA := hide ya
  have YB := hide yb
  clear hA hB ha hb ya yb
  go_enter Tryd.func17, Tryd.ntmps17
  go_wp2_with fail
  refine (match_any _ _ alike_same A B a b c d s t _ LA.out LB.out hca hcb (HA.out.below (by (repeat (first | with_reducible exact Below.refl _ _ | with_reducible assumption | with_reducible refine Below.setCell ?_ (by first | (simp; done) | omega | (simp; omega)) _ | with_reducible refine Below.alloc ?_ (by first | (simp; done) | omega | (simp; omega)) _ | with_reducible refine below_drewN ?_ _ | with_reducible refine Below.drew ?_)))) (HBB.out.below (by (repeat (first | with_reducible exact Below.refl _ _ | with_reducible assumption | with_reducible refine Below.setCell ?_ (by first | (simp; done) | omega | (simp; omega)) _ | with_reducible refine Below.alloc ?_ (by first | (simp; done) | omega | (simp; omega)) _ | with_reducible refine below_drewN ?_ _ | with_reducible refine Below.drew ?_)))) YA.out YB.out).mono ?_
  rintro e w1 ⟨rfl, hb⟩
  have hB1 : Below w.heap.size w w1 := Below.trans (by (repeat (first | with_reducible exact Below.refl _ _ | with_reducible assumption | with_reducible refine Below.setCell ?_ (by first | (simp; done) | omega | (simp; omega)) _ | with_reducible refine Below.alloc ?_ (by first | (simp; done) | omega | (simp; omega)) _ | with_reducible refine below_drewN ?_ _ | with_reducible refine Below.drew ?_))) (hb.mono (by first | omega | (simp; done) | (simp; omega)))
  obtain ⟨kc1, kf1⟩ := bcell hb
  have hz1 := hb.size
  (try simp at hz1)
  have n1_0 : w.heap.size < w1.heap.size := by omega
  have n1_1 : w.heap.size + 1 < w1.heap.size := by omega
  have n1_2 : w.heap.size + 2 < w1.heap.size := by omega
  have r1_0 : w1.cell? ⟨w.heap.size + 2, 0, none⟩ = some (.slice none 0 0) := (kc1 _ _ (by first | assumption | (simp; done) | omega | (simp; omega))).trans (by first | assumption | (simp [go_sem]; done) | (simp; done))
  have g1_0 : w1.frozen? ⟨w.heap.size + 2, 0, none⟩ = false := (kf1 _ _ (by first | assumption | (simp; done) | omega | (simp; omega))).trans (by first | assumption | (simp [go_sem]; done) | (simp; done))
  have r1_1 : w1.cell? ⟨w.heap.size + 2, 1, none⟩ = some (.bool false) := (kc1 _ _ (by first | assumption | (simp; done) | omega | (simp; omega))).trans (by first | assumption | (simp [go_sem]; done) | (simp; done))
  have g1_1 : w1.frozen? ⟨w.heap.size + 2, 1, none⟩ = false := (kf1 _ _ (by first | assumption | (simp; done) | omega | (simp; omega))).trans (by first | assumption | (simp [go_sem]; done) | (simp; done))
  clear hb
  go_wp2_with fail
  refine (from_q _ _).mono ?_
  rintro e w' ⟨rfl, rfl⟩
  go_wp2_with fail
  refine (single_any _ _).mono ?_
  rintro e w2 ⟨l1, s1, A1, c1, E1, rfl, C1, O1, hb⟩
  replace O1 := hide (O1.out.base (show w.heap.size + 3 ≤ _ by first | omega | (simp; omega) | (simp; done)))
  have hB2 : Below w.heap.size w w2 := Below.trans (by (repeat (first | with_reducible exact Below.refl _ _ | with_reducible assumption | with_reducible refine Below.setCell ?_ (by first | (simp; done) | omega | (simp; omega)) _ | with_reducible refine Below.alloc ?_ (by first | (simp; done) | omega | (simp; omega)) _ | with_reducible refine below_drewN ?_ _ | with_reducible refine Below.drew ?_))) (hb.mono (by first | omega | (simp; done) | (simp; omega)))
  obtain ⟨kc2, kf2⟩ := bcell hb
  have hz2 := hb.size
  (try simp at hz2)
  have n2_0 : w.heap.size < w2.heap.size := by omega
  have n2_1 : w.heap.size + 1 < w2.heap.size := by omega
  have n2_2 : w.heap.size + 2 < w2.heap.size := by omega
  have r2_0 : w2.cell? ⟨w.heap.size + 2, 0, none⟩ = some (.slice none 0 0) := (kc2 _ _ (by first | assumption | (simp; done) | omega | (simp; omega))).trans (by first | assumption | (simp [go_sem]; done) | (simp; done))
  have g2_0 : w2.frozen? ⟨w.heap.size + 2, 0, none⟩ = false := (kf2 _ _ (by first | assumption | (simp; done) | omega | (simp; omega))).trans (by first | assumption | (simp [go_sem]; done) | (simp; done))
  have r2_1 : w2.cell? ⟨w.heap.size + 2, 1, none⟩ = some (.bool false) := (kc2 _ _ (by first | assumption | (simp; done) | omega | (simp; omega))).trans (by first | assumption | (simp [go_sem]; done) | (simp; done))
  have g2_1 : w2.frozen? ⟨w.heap.size + 2, 1, none⟩ = false := (kf2 _ _ (by first | assumption | (simp; done) | omega | (simp; omega))).trans (by first | assumption | (simp [go_sem]; done) | (simp; done))
  clear hb
  go_wp2
  refine bodyPost_ret (v := .agg #[.slice A1 l1.length c1, .bool s1]) (by simp [results, Tryd.results17, go_sem, *]) rfl ?_
  exact ⟨l1, s1, A1, c1, hide (E1.out), rfl, C1, hide (OwQ.base (B := w.heap.size + 3) (by (repeat (first | with_reducible exact O1.out | with_reducible refine OwQ.far ?_ (by first | (simp; done) | omega | (simp; omega)) _ | with_reducible refine OwQ.allc ?_ _ | with_reducible refine OwQ.drew ?_ | with_reducible refine OwQ.drewN ?_ _))) (by omega)), by (repeat (first | with_reducible exact Below.refl _ _ | with_reducible assumption | with_reducible refine Below.setCell ?_ (by first | (simp; done) | omega | (simp; omega)) _ | with_reducible refine Below.alloc ?_ (by first | (simp; done) | omega | (simp; omega)) _ | with_reducible refine below_drewN ?_ _ | with_reducible refine Below.drew ?_))⟩
theorem vCaseNe_any (A B : Option Addr) (a b : List Int) (c d : Nat) (s t : Bool) (w : World) (ha : a.length ≤ 4096) (hb : b.length ≤ 4096) (hca : Hid (a.length ≤ c ∧ c ≤ maxLen)) (hcb : Hid (b.length ≤ d ∧ d ≤ maxLen)) (hA : RQ w A a) (hB : RQ w B b) (ya : By a) (yb : By b) (ht : Tabs w) :
    Calls Tryd.prog 18 #[.agg #[.slice A a.length c, .bool s], .agg #[.slice B b.length d, .bool t]] w (RetC (· = sgl (mNot (mFrom (mtc mSame ⟨a, s⟩ ⟨b, t⟩)))) w) := by
  have HA := hide hA
  have HBB := hide hB
  have LA := hide ha
  have LB := hide hb
  have YA := hide ya
  have YB := hide yb
  clear hA hB ha hb ya yb
  have HT := hide ht
  clear ht
  go_enter Tryd.func18, Tryd.ntmps18
  go_wp2_with fail
  refine (vCaseEq_any A B a b c d s t _ LA.out LB.out hca hcb (HA.out.below (by (repeat (first | with_reducible exact Below.refl _ _ | with_reducible assumption | with_reducible refine Below.setCell ?_ (by first | (simp; done) | omega | (simp; omega)) _ | with_reducible refine Below.alloc ?_ (by first | (simp; done) | omega | (simp; omega)) _ | with_reducible refine below_drewN ?_ _ | with_reducible refine Below.drew ?_)))) (HBB.out.below (by (repeat (first | with_reducible exact Below.refl _ _ | with_reducible assumption | with_reducible refine Below.setCell ?_ (by first | (simp; done) | omega | (simp; omega)) _ | with_reducible refine Below.alloc ?_ (by first | (simp; done) | omega | (simp; omega)) _ | with_reducible refine below_drewN ?_ _ | with_reducible refine Below.drew ?_)))) YA.out YB.out).mono ?_
  rintro e w1 ⟨l1, s1, A1, c1, E1, rfl, C1, O1, hb⟩
  replace O1 := hide (O1.out.base (show w.heap.size + 3 ≤ _ by first | omega | (simp; omega) | (simp; done)))
  have hB1 : Below w.heap.size w w1 := Below.trans (by (repeat (first | with_reducible exact Below.refl _ _ | with_reducible assumption | with_reducible refine Below.setCell ?_ (by first | (simp; done) | omega | (simp; omega)) _ | with_reducible refine Below.alloc ?_ (by first | (simp; done) | omega | (simp; omega)) _ | with_reducible refine below_drewN ?_ _ | with_reducible refine Below.drew ?_))) (hb.mono (by first | omega | (simp; done) | (simp; omega)))
  obtain ⟨kc1, kf1⟩ := bcell hb
  have hz1 := hb.size
  (try simp at hz1)
  have n1_0 : w.heap.size < w1.heap.size := by omega
  have n1_1 : w.heap.size + 1 < w1.heap.size := by omega
  have n1_2 : w.heap.size + 2 < w1.heap.size := by omega
  have r1_0 : w1.cell? ⟨w.heap.size + 2, 0, none⟩ = some (.slice none 0 0) := (kc1 _ _ (by first | assumption | (simp; done) | omega | (simp; omega))).trans (by first | assumption | (simp [go_sem]; done) | (simp; done))
  have g1_0 : w1.frozen? ⟨w.heap.size + 2, 0, none⟩ = false := (kf1 _ _ (by first | assumption | (simp; done) | omega | (simp; omega))).trans (by first | assumption | (simp [go_sem]; done) | (simp; done))
  have r1_1 : w1.cell? ⟨w.heap.size + 2, 1, none⟩ = some (.bool false) := (kc1 _ _ (by first | assumption | (simp; done) | omega | (simp; omega))).trans (by first | assumption | (simp [go_sem]; done) | (simp; done))
  have g1_1 : w1.frozen? ⟨w.heap.size + 2, 1, none⟩ = false := (kf1 _ _ (by first | assumption | (simp; done) | omega | (simp; omega))).trans (by first | assumption | (simp [go_sem]; done) | (simp; done))
  clear hb
  have B1 := mFrom_bd (mtc mSame ⟨a, s⟩ ⟨b, t⟩)
  have Y1 := by_of_gd E1.out (gd_sgl B1)
  have L1 := len_of_gd E1.out (gd_sgl B1)
  go_wp2_with fail
  refine (vNot_any A1 l1 c1 s1 _ (by omega) C1 (by refine OwQ.rd (B := w.heap.size + 3) ?_; (repeat (first | with_reducible exact O1.out | with_reducible refine OwQ.far ?_ (by first | (simp; done) | omega | (simp; omega)) _ | with_reducible refine OwQ.allc ?_ _ | with_reducible refine OwQ.drew ?_ | with_reducible refine OwQ.drewN ?_ _))) Y1 (HT.out.kept (by (repeat (first | with_reducible exact Below.refl _ _ | with_reducible assumption | with_reducible refine Below.setCell ?_ (by first | (simp; done) | omega | (simp; omega)) _ | with_reducible refine Below.alloc ?_ (by first | (simp; done) | omega | (simp; omega)) _ | with_reducible refine below_drewN ?_ _ | with_reducible refine Below.drew ?_))))).mono ?_
  rintro e w2 ⟨l2, s2, A2, c2, E2, rfl, C2, O2, hb⟩
  replace O1 := hide ((show OwQ (w.heap.size + 3) _ A1 l1 by (repeat (first | with_reducible exact O1.out | with_reducible refine OwQ.far ?_ (by first | (simp; done) | omega | (simp; omega)) _ | with_reducible refine OwQ.allc ?_ _ | with_reducible refine OwQ.drew ?_ | with_reducible refine OwQ.drewN ?_ _))).kept hb)
  replace O2 := hide (O2.out.base (show w.heap.size + 3 ≤ _ by first | omega | (simp; omega) | (simp; done)))
  have hB2 : Below w.heap.size w w2 := Below.trans (by (repeat (first | with_reducible exact Below.refl _ _ | with_reducible assumption | with_reducible refine Below.setCell ?_ (by first | (simp; done) | omega | (simp; omega)) _ | with_reducible refine Below.alloc ?_ (by first | (simp; done) | omega | (simp; omega)) _ | with_reducible refine below_drewN ?_ _ | with_reducible refine Below.drew ?_))) (hb.mono (by first | omega | (simp; done) | (simp; omega)))
  obtain ⟨kc2, kf2⟩ := bcell hb
  have hz2 := hb.size
  (try simp at hz2)
  have n2_0 : w.heap.size < w2.heap.size := by omega
  have n2_1 : w.heap.size + 1 < w2.heap.size := by omega
  have n2_2 : w.heap.size + 2 < w2.heap.size := by omega
  have r2_0 : w2.cell? ⟨w.heap.size + 2, 0, none⟩ = some (.slice none 0 0) := (kc2 _ _ (by first | assumption | (simp; done) | omega | (simp; omega))).trans (by first | assumption | (simp [go_sem]; done) | (simp; done))
  have g2_0 : w2.frozen? ⟨w.heap.size + 2, 0, none⟩ = false := (kf2 _ _ (by first | assumption | (simp; done) | omega | (simp; omega))).trans (by first | assumption | (simp [go_sem]; done) | (simp; done))
  have r2_1 : w2.cell? ⟨w.heap.size + 2, 1, none⟩ = some (.bool false) := (kc2 _ _ (by first | assumption | (simp; done) | omega | (simp; omega))).trans (by first | assumption | (simp [go_sem]; done) | (simp; done))
  have g2_1 : w2.frozen? ⟨w.heap.size + 2, 1, none⟩ = false := (kf2 _ _ (by first | assumption | (simp; done) | omega | (simp; omega))).trans (by first | assumption | (simp [go_sem]; done) | (simp; done))
  clear hb
  go_wp2
  refine bodyPost_ret (v := .agg #[.slice A2 l2.length c2, .bool s2]) (by simp [results, Tryd.results18, go_sem, *]) rfl ?_
  exact ⟨l2, s2, A2, c2, hide (E2.out.trans (by rw [E1.out]; exact vNot_sgl B1)), rfl, C2, hide (OwQ.base (B := w.heap.size + 3) (by (repeat (first | with_reducible exact O2.out | with_reducible refine OwQ.far ?_ (by first | (simp; done) | omega | (simp; omega)) _ | with_reducible refine OwQ.allc ?_ _ | with_reducible refine OwQ.drew ?_ | with_reducible refine OwQ.drewN ?_ _))) (by omega)), by (repeat (first | with_reducible exact Below.refl _ _ | with_reducible assumption | with_reducible refine Below.setCell ?_ (by first | (simp; done) | omega | (simp; omega)) _ | with_reducible refine Below.alloc ?_ (by first | (simp; done) | omega | (simp; omega)) _ | with_reducible refine below_drewN ?_ _ | with_reducible refine Below.drew ?_))⟩
theorem gd_btw {N : Nat} {f : Int → Int → Int} (hop : OpF N f) {a b : Vc} (ya : By a.b) (yb : By b.b) : Gd (btw f a b).b := gd_ql (wd_bd ya yb).1 (wd_bd ya yb).2 fun i _ => hop.bd _ _ ((gd_blA ya yb).bd i) ((gd_blB ya yb).bd i)
theorem vEq_any (A B : Option Addr) (a b : List Int) (c d : Nat) (s t : Bool) (w : World) (ha : a.length ≤ 4096) (hb : b.length ≤ 4096) (hca : Hid (a.length ≤ c ∧ c ≤ maxLen)) (hcb : Hid (b.length ≤ d ∧ d ≤ maxLen)) (hA : RQ w A a) (hB : RQ w B b) (ya : By a) (yb : By b) (ht : Tabs w) :
    Calls Tryd.prog 22 #[.agg #[.slice A a.length c, .bool s], .agg #[.slice B b.length d, .bool t]] w (RetC (· = vEq ⟨a, s⟩ ⟨b, t⟩) w) := by
  have HA := hide hA
  have HBB := hide hB
  have LA := hide ha
  have LB := hide hb
  have YA := hide ya
  have YB := hide yb
  clear hA hB ha hb ya yb
  have HT := hide ht
  clear ht
  go_enter Tryd.func22, Tryd.ntmps22
  go_wp2_with fail
  refine (vXnor_any A B a b c d s t _ LA.out LB.out hca hcb (HA.out.below (by (repeat (first | with_reducible exact Below.refl _ _ | with_reducible assumption | with_reducible refine Below.setCell ?_ (by first | (simp; done) | omega | (simp; omega)) _ | with_reducible refine Below.alloc ?_ (by first | (simp; done) | omega | (simp; omega)) _ | with_reducible refine below_drewN ?_ _ | with_reducible refine Below.drew ?_)))) (HBB.out.below (by (repeat (first | with_reducible exact Below.refl _ _ | with_reducible assumption | with_reducible refine Below.setCell ?_ (by first | (simp; done) | omega | (simp; omega)) _ | with_reducible refine Below.alloc ?_ (by first | (simp; done) | omega | (simp; omega)) _ | with_reducible refine below_drewN ?_ _ | with_reducible refine Below.drew ?_)))) YA.out YB.out (HT.out.kept (by (repeat (first | with_reducible exact Below.refl _ _ | with_reducible assumption | with_reducible refine Below.setCell ?_ (by first | (simp; done) | omega | (simp; omega)) _ | with_reducible refine Below.alloc ?_ (by first | (simp; done) | omega | (simp; omega)) _ | with_reducible refine below_drewN ?_ _ | with_reducible refine Below.drew ?_))))).mono ?_
  rintro e w1 ⟨l1, s1, A1, c1, E1, rfl, C1, O1, hb⟩
  replace O1 := hide (O1.out.base (show w.heap.size + 3 ≤ _ by first | omega | (simp; omega) | (simp; done)))
  have hB1 : Below w.heap.size w w1 := Below.trans (by (repeat (first | with_reducible exact Below.refl _ _ | with_reducible assumption | with_reducible refine Below.setCell ?_ (by first | (simp; done) | omega | (simp; omega)) _ | with_reducible refine Below.alloc ?_ (by first | (simp; done) | omega | (simp; omega)) _ | with_reducible refine below_drewN ?_ _ | with_reducible refine Below.drew ?_))) (hb.mono (by first | omega | (simp; done) | (simp; omega)))
  obtain ⟨kc1, kf1⟩ := bcell hb
  have hz1 := hb.size
  (try simp at hz1)
  have n1_0 : w.heap.size < w1.heap.size := by omega
  have n1_1 : w.heap.size + 1 < w1.heap.size := by omega
  have n1_2 : w.heap.size + 2 < w1.heap.size := by omega
  have r1_0 : w1.cell? ⟨w.heap.size + 2, 0, none⟩ = some (.slice none 0 0) := (kc1 _ _ (by first | assumption | (simp; done) | omega | (simp; omega))).trans (by first | assumption | (simp [go_sem]; done) | (simp; done))
  have g1_0 : w1.frozen? ⟨w.heap.size + 2, 0, none⟩ = false := (kf1 _ _ (by first | assumption | (simp; done) | omega | (simp; omega))).trans (by first | assumption | (simp [go_sem]; done) | (simp; done))
  have r1_1 : w1.cell? ⟨w.heap.size + 2, 1, none⟩ = some (.bool false) := (kc1 _ _ (by first | assumption | (simp; done) | omega | (simp; omega))).trans (by first | assumption | (simp [go_sem]; done) | (simp; done))
  have g1_1 : w1.frozen? ⟨w.heap.size + 2, 1, none⟩ = false := (kf1 _ _ (by first | assumption | (simp; done) | omega | (simp; omega))).trans (by first | assumption | (simp [go_sem]; done) | (simp; done))
  clear hb
  have G1 := gd_btw opF_eq (a := ⟨a, s⟩) (b := ⟨b, t⟩) YA.out YB.out
  have Y1 := by_of_gd E1.out G1
  have L1 := len_of_gd E1.out G1
  go_wp2_with fail
  refine (vRedAnd_any A1 l1 c1 s1 _ (by omega) C1 (by refine OwQ.rd (B := w.heap.size + 3) ?_; (repeat (first | with_reducible exact O1.out | with_reducible refine OwQ.far ?_ (by first | (simp; done) | omega | (simp; omega)) _ | with_reducible refine OwQ.allc ?_ _ | with_reducible refine OwQ.drew ?_ | with_reducible refine OwQ.drewN ?_ _))) Y1 (HT.out.kept (by (repeat (first | with_reducible exact Below.refl _ _ | with_reducible assumption | with_reducible refine Below.setCell ?_ (by first | (simp; done) | omega | (simp; omega)) _ | with_reducible refine Below.alloc ?_ (by first | (simp; done) | omega | (simp; omega)) _ | with_reducible refine below_drewN ?_ _ | with_reducible refine Below.drew ?_))))).mono ?_
  rintro e w2 ⟨l2, s2, A2, c2, E2, rfl, C2, O2, hb⟩
  replace O1 := hide ((show OwQ (w.heap.size + 3) _ A1 l1 by (repeat (first | with_reducible exact O1.out | with_reducible refine OwQ.far ?_ (by first | (simp; done) | omega | (simp; omega)) _ | with_reducible refine OwQ.allc ?_ _ | with_reducible refine OwQ.drew ?_ | with_reducible refine OwQ.drewN ?_ _))).kept hb)
  replace O2 := hide (O2.out.base (show w.heap.size + 3 ≤ _ by first | omega | (simp; omega) | (simp; done)))
  have hB2 : Below w.heap.size w w2 := Below.trans (by (repeat (first | with_reducible exact Below.refl _ _ | with_reducible assumption | with_reducible refine Below.setCell ?_ (by first | (simp; done) | omega | (simp; omega)) _ | with_reducible refine Below.alloc ?_ (by first | (simp; done) | omega | (simp; omega)) _ | with_reducible refine below_drewN ?_ _ | with_reducible refine Below.drew ?_))) (hb.mono (by first | omega | (simp; done) | (simp; omega)))
  obtain ⟨kc2, kf2⟩ := bcell hb
  have hz2 := hb.size
  (try simp at hz2)
  have n2_0 : w.heap.size < w2.heap.size := by omega
  have n2_1 : w.heap.size + 1 < w2.heap.size := by omega
  have n2_2 : w.heap.size + 2 < w2.heap.size := by omega
  have r2_0 : w2.cell? ⟨w.heap.size + 2, 0, none⟩ = some (.slice none 0 0) := (kc2 _ _ (by first | assumption | (simp; done) | omega | (simp; omega))).trans (by first | assumption | (simp [go_sem]; done) | (simp; done))
  have g2_0 : w2.frozen? ⟨w.heap.size + 2, 0, none⟩ = false := (kf2 _ _ (by first | assumption | (simp; done) | omega | (simp; omega))).trans (by first | assumption | (simp [go_sem]; done) | (simp; done))
  have r2_1 : w2.cell? ⟨w.heap.size + 2, 1, none⟩ = some (.bool false) := (kc2 _ _ (by first | assumption | (simp; done) | omega | (simp; omega))).trans (by first | assumption | (simp [go_sem]; done) | (simp; done))
  have g2_1 : w2.frozen? ⟨w.heap.size + 2, 1, none⟩ = false := (kf2 _ _ (by first | assumption | (simp; done) | omega | (simp; omega))).trans (by first | assumption | (simp [go_sem]; done) | (simp; done))
  clear hb
  go_wp2
  refine bodyPost_ret (v := .agg #[.slice A2 l2.length c2, .bool s2]) (by simp [results, Tryd.results22, go_sem, *]) rfl ?_
  exact ⟨l2, s2, A2, c2, hide (E2.out.trans (by rw [E1.out]; rfl)), rfl, C2, hide (OwQ.base (B := w.heap.size + 3) (by (repeat (first | with_reducible exact O2.out | with_reducible refine OwQ.far ?_ (by first | (simp; done) | omega | (simp; omega)) _ | with_reducible refine OwQ.allc ?_ _ | with_reducible refine OwQ.drew ?_ | with_reducible refine OwQ.drewN ?_ _))) (by omega)), by (repeat (first | with_reducible exact Below.refl _ _ | with_reducible assumption | with_reducible refine Below.setCell ?_ (by first | (simp; done) | omega | (simp; omega)) _ | with_reducible refine Below.alloc ?_ (by first | (simp; done) | omega | (simp; omega)) _ | with_reducible refine below_drewN ?_ _ | with_reducible refine Below.drew ?_))⟩
end
section
open Go.RowKit
set_option maxRecDepth 100000
set_option linter.unusedSimpArgs false
set_option linter.unusedVariables false
theorem btw_first (a b : Vc) : btw (fun p _ => p) a b = ⟨blA a b, sg a b⟩ := by
  unfold btw
  refine Vc.ext' ?_ rfl
  rw [← blA_length a b]
  exact ql_qt _
theorem btw_second (a b : Vc) : btw (fun _ q => q) a b = ⟨blB a b, sg a b⟩ := by
  unfold btw
  refine Vc.ext' ?_ rfl
  rw [← blB_length a b]
  exact ql_qt _
theorem vCond_any (C : Option Addr) (z : List Int) (e : Nat) (r : Bool) (A B : Option Addr) (a b : List Int) (c d : Nat) (s t : Bool) (w : World) (ha : a.length ≤ 4096) (hb : b.length ≤ 4096) (hca : Hid (a.length ≤ c ∧ c ≤ maxLen)) (hcb : Hid (b.length ≤ d ∧ d ≤ maxLen)) (hA : RQ w A a) (hB : RQ w B b) (ya : By a) (yb : By b) (hz : z.length ≤ 4096) (hce : Hid (z.length ≤ e ∧ e ≤ maxLen)) (hC : RQ w C z) (yc : By z) (ht : Tabs w) :
    Calls Tryd.prog 16 #[.agg #[.slice C z.length e, .bool r], .agg #[.slice A a.length c, .bool s], .agg #[.slice B b.length d, .bool t]] w (RetC (· = vCond ⟨z, r⟩ ⟨a, s⟩ ⟨b, t⟩) w) := by
  have HA := hide hA
  have HBB := hide hB
  have LA := hide ha
  have LB := hide hb
  have YA := hide ya
  have YB := hide yb
  clear hA hB ha hb ya yb
  have HT := hide ht
  have HC := hide hC
  have LC := hide hz
  have YC := hide yc
  clear ht hC hz yc
  obtain ⟨v, hv⟩ : ∃ v, v = tr ⟨z, r⟩ := ⟨_, rfl⟩
  have hcall := hide fun W (hW : Below w.heap.size w W) => truth_any C z e r W LC.out hce (HC.out.below hW) YC.out (HT.out.kept hW)
  rw [← hv] at hcall
  have HV := hide hv
  clear hv
  by_cases h1 : v = 1
  · subst h1
    have HS := hide (show btw (fun p _ => p) ⟨a, s⟩ ⟨b, t⟩ = vCond ⟨z, r⟩ ⟨a, s⟩ ⟨b, t⟩ by unfold vCond; rw [← HV.out, if_pos rfl, btw_first])
    clear HV
    go_enter Tryd.func16, Tryd.ntmps16
    go_wp2_with fail
    refine (hcall.out _ (by (repeat (first | with_reducible exact Below.refl _ _ | with_reducible assumption | with_reducible refine Below.setCell ?_ (by first | (simp; done) | omega | (simp; omega)) _ | with_reducible refine Below.alloc ?_ (by first | (simp; done) | omega | (simp; omega)) _ | with_reducible refine below_drewN ?_ _ | with_reducible refine Below.drew ?_)))).mono ?_
    rintro e w1 ⟨rfl, hb⟩
    have hB1 : Below w.heap.size w w1 := Below.trans (by (repeat (first | with_reducible exact Below.refl _ _ | with_reducible assumption | with_reducible refine Below.setCell ?_ (by first | (simp; done) | omega | (simp; omega)) _ | with_reducible refine Below.alloc ?_ (by first | (simp; done) | omega | (simp; omega)) _ | with_reducible refine below_drewN ?_ _ | with_reducible refine Below.drew ?_))) (hb.mono (by first | omega | (simp; done) | (simp; omega)))
    obtain ⟨kc1, kf1⟩ := bcell hb
    have hz1 := hb.size
    (try simp at hz1)
    have n1_0 : w.heap.size < w1.heap.size := by omega
    have n1_1 : w.heap.size + 1 < w1.heap.size := by omega
    have n1_2 : w.heap.size + 2 < w1.heap.size := by omega
    have n1_3 : w.heap.size + 3 < w1.heap.size := by omega
    have r1_0 : w1.cell? ⟨w.heap.size + 3, 0, none⟩ = some (.slice none 0 0) := (kc1 _ _ (by first | assumption | (simp; done) | omega | (simp; omega))).trans (by first | assumption | (simp [go_sem]; done) | (simp; done))
    have g1_0 : w1.frozen? ⟨w.heap.size + 3, 0, none⟩ = false := (kf1 _ _ (by first | assumption | (simp; done) | omega | (simp; omega))).trans (by first | assumption | (simp [go_sem]; done) | (simp; done))
    have r1_1 : w1.cell? ⟨w.heap.size + 3, 1, none⟩ = some (.bool false) := (kc1 _ _ (by first | assumption | (simp; done) | omega | (simp; omega))).trans (by first | assumption | (simp [go_sem]; done) | (simp; done))
    have g1_1 : w1.frozen? ⟨w.heap.size + 3, 1, none⟩ = false := (kf1 _ _ (by first | assumption | (simp; done) | omega | (simp; omega))).trans (by first | assumption | (simp [go_sem]; done) | (simp; done))
    clear hb
    go_wp2_with fail
    refine (bitwise_any _ _ opF_first A B a b c d s t _ LA.out LB.out hca hcb (HA.out.below (by (repeat (first | with_reducible exact Below.refl _ _ | with_reducible assumption | with_reducible refine Below.setCell ?_ (by first | (simp; done) | omega | (simp; omega)) _ | with_reducible refine Below.alloc ?_ (by first | (simp; done) | omega | (simp; omega)) _ | with_reducible refine below_drewN ?_ _ | with_reducible refine Below.drew ?_)))) (HBB.out.below (by (repeat (first | with_reducible exact Below.refl _ _ | with_reducible assumption | with_reducible refine Below.setCell ?_ (by first | (simp; done) | omega | (simp; omega)) _ | with_reducible refine Below.alloc ?_ (by first | (simp; done) | omega | (simp; omega)) _ | with_reducible refine below_drewN ?_ _ | with_reducible refine Below.drew ?_)))) YA.out YB.out (HT.out.kept (by (repeat (first | with_reducible exact Below.refl _ _ | with_reducible assumption | with_reducible refine Below.setCell ?_ (by first | (simp; done) | omega | (simp; omega)) _ | with_reducible refine Below.alloc ?_ (by first | (simp; done) | omega | (simp; omega)) _ | with_reducible refine below_drewN ?_ _ | with_reducible refine Below.drew ?_))))).mono ?_
    rintro e w2 ⟨l1, s1, A1, c1, E1, rfl, C1, O1, hb⟩
    replace O1 := hide (O1.out.base (show w.heap.size + 4 ≤ _ by first | omega | (simp; omega) | (simp; done)))
    have hB2 : Below w.heap.size w w2 := Below.trans (by (repeat (first | with_reducible exact Below.refl _ _ | with_reducible assumption | with_reducible refine Below.setCell ?_ (by first | (simp; done) | omega | (simp; omega)) _ | with_reducible refine Below.alloc ?_ (by first | (simp; done) | omega | (simp; omega)) _ | with_reducible refine below_drewN ?_ _ | with_reducible refine Below.drew ?_))) (hb.mono (by first | omega | (simp; done) | (simp; omega)))
    obtain ⟨kc2, kf2⟩ := bcell hb
    have hz2 := hb.size
    (try simp at hz2)
    have n2_0 : w.heap.size < w2.heap.size := by omega
    have n2_1 : w.heap.size + 1 < w2.heap.size := by omega
    have n2_2 : w.heap.size + 2 < w2.heap.size := by omega
    have n2_3 : w.heap.size + 3 < w2.heap.size := by omega
    have r2_0 : w2.cell? ⟨w.heap.size + 3, 0, none⟩ = some (.slice none 0 0) := (kc2 _ _ (by first | assumption | (simp; done) | omega | (simp; omega))).trans (by first | assumption | (simp [go_sem]; done) | (simp; done))
    have g2_0 : w2.frozen? ⟨w.heap.size + 3, 0, none⟩ = false := (kf2 _ _ (by first | assumption | (simp; done) | omega | (simp; omega))).trans (by first | assumption | (simp [go_sem]; done) | (simp; done))
    have r2_1 : w2.cell? ⟨w.heap.size + 3, 1, none⟩ = some (.bool false) := (kc2 _ _ (by first | assumption | (simp; done) | omega | (simp; omega))).trans (by first | assumption | (simp [go_sem]; done) | (simp; done))
    have g2_1 : w2.frozen? ⟨w.heap.size + 3, 1, none⟩ = false := (kf2 _ _ (by first | assumption | (simp; done) | omega | (simp; omega))).trans (by first | assumption | (simp [go_sem]; done) | (simp; done))
    clear hb
    go_wp2
    refine bodyPost_ret (v := .agg #[.slice A1 l1.length c1, .bool s1]) (by simp [results, Tryd.results16, go_sem, *]) rfl ?_
    exact ⟨l1, s1, A1, c1, hide (E1.out.trans HS.out), rfl, C1, hide (OwQ.base (B := w.heap.size + 4) (by (repeat (first | with_reducible exact O1.out | with_reducible refine OwQ.far ?_ (by first | (simp; done) | omega | (simp; omega)) _ | with_reducible refine OwQ.allc ?_ _ | with_reducible refine OwQ.drew ?_ | with_reducible refine OwQ.drewN ?_ _))) (by omega)), by (repeat (first | with_reducible exact Below.refl _ _ | with_reducible assumption | with_reducible refine Below.setCell ?_ (by first | (simp; done) | omega | (simp; omega)) _ | with_reducible refine Below.alloc ?_ (by first | (simp; done) | omega | (simp; omega)) _ | with_reducible refine below_drewN ?_ _ | with_reducible refine Below.drew ?_))⟩
  · by_cases h0 : v = 0
    · subst h0
      have HS := hide (show btw (fun _ q => q) ⟨a, s⟩ ⟨b, t⟩ = vCond ⟨z, r⟩ ⟨a, s⟩ ⟨b, t⟩ by unfold vCond; rw [← HV.out, if_neg h1, if_pos rfl, btw_second])
      clear HV h1
      go_enter Tryd.func16, Tryd.ntmps16
      go_wp2_with fail
      refine (hcall.out _ (by (repeat (first | with_reducible exact Below.refl _ _ | with_reducible assumption | with_reducible refine Below.setCell ?_ (by first | (simp; done) | omega | (simp; omega)) _ | with_reducible refine Below.alloc ?_ (by first | (simp; done) | omega | (simp; omega)) _ | with_reducible refine below_drewN ?_ _ | with_reducible refine Below.drew ?_)))).mono ?_
      rintro e w1 ⟨rfl, hb⟩
      have hB1 : Below w.heap.size w w1 := Below.trans (by (repeat (first | with_reducible exact Below.refl _ _ | with_reducible assumption | with_reducible refine Below.setCell ?_ (by first | (simp; done) | omega | (simp; omega)) _ | with_reducible refine Below.alloc ?_ (by first | (simp; done) | omega | (simp; omega)) _ | with_reducible refine below_drewN ?_ _ | with_reducible refine Below.drew ?_))) (hb.mono (by first | omega | (simp; done) | (simp; omega)))
      obtain ⟨kc1, kf1⟩ := bcell hb
      have hz1 := hb.size
      (try simp at hz1)
      have n1_0 : w.heap.size < w1.heap.size := by omega
      have n1_1 : w.heap.size + 1 < w1.heap.size := by omega
      have n1_2 : w.heap.size + 2 < w1.heap.size := by omega
      have n1_3 : w.heap.size + 3 < w1.heap.size := by omega
      have r1_0 : w1.cell? ⟨w.heap.size + 3, 0, none⟩ = some (.slice none 0 0) := (kc1 _ _ (by first | assumption | (simp; done) | omega | (simp; omega))).trans (by first | assumption | (simp [go_sem]; done) | (simp; done))
      have g1_0 : w1.frozen? ⟨w.heap.size + 3, 0, none⟩ = false := (kf1 _ _ (by first | assumption | (simp; done) | omega | (simp; omega))).trans (by first | assumption | (simp [go_sem]; done) | (simp; done))
      have r1_1 : w1.cell? ⟨w.heap.size + 3, 1, none⟩ = some (.bool false) := (kc1 _ _ (by first | assumption | (simp; done) | omega | (simp; omega))).trans (by first | assumption | (simp [go_sem]; done) | (simp; done))
      have g1_1 : w1.frozen? ⟨w.heap.size + 3, 1, none⟩ = false := (kf1 _ _ (by first | assumption | (simp; done) | omega | (simp; omega))).trans (by first | assumption | (simp [go_sem]; done) | (simp; done))
      clear hb
      go_wp2_with fail
      refine (bitwise_any _ _ opF_second A B a b c d s t _ LA.out LB.out hca hcb (HA.out.below (by (repeat (first | with_reducible exact Below.refl _ _ | with_reducible assumption | with_reducible refine Below.setCell ?_ (by first | (simp; done) | omega | (simp; omega)) _ | with_reducible refine Below.alloc ?_ (by first | (simp; done) | omega | (simp; omega)) _ | with_reducible refine below_drewN ?_ _ | with_reducible refine Below.drew ?_)))) (HBB.out.below (by (repeat (first | with_reducible exact Below.refl _ _ | with_reducible assumption | with_reducible refine Below.setCell ?_ (by first | (simp; done) | omega | (simp; omega)) _ | with_reducible refine Below.alloc ?_ (by first | (simp; done) | omega | (simp; omega)) _ | with_reducible refine below_drewN ?_ _ | with_reducible refine Below.drew ?_)))) YA.out YB.out (HT.out.kept (by (repeat (first | with_reducible exact Below.refl _ _ | with_reducible assumption | with_reducible refine Below.setCell ?_ (by first | (simp; done) | omega | (simp; omega)) _ | with_reducible refine Below.alloc ?_ (by first | (simp; done) | omega | (simp; omega)) _ | with_reducible refine below_drewN ?_ _ | with_reducible refine Below.drew ?_))))).mono ?_
      rintro e w2 ⟨l1, s1, A1, c1, E1, rfl, C1, O1, hb⟩
      replace O1 := hide (O1.out.base (show w.heap.size + 4 ≤ _ by first | omega | (simp; omega) | (simp; done)))
      have hB2 : Below w.heap.size w w2 := Below.trans (by (repeat (first | with_reducible exact Below.refl _ _ | with_reducible assumption | with_reducible refine Below.setCell ?_ (by first | (simp; done) | omega | (simp; omega)) _ | with_reducible refine Below.alloc ?_ (by first | (simp; done) | omega | (simp; omega)) _ | with_reducible refine below_drewN ?_ _ | with_reducible refine Below.drew ?_))) (hb.mono (by first | omega | (simp; done) | (simp; omega)))
      obtain ⟨kc2, kf2⟩ := bcell hb
      have hz2 := hb.size
      (try simp at hz2)
      have n2_0 : w.heap.size < w2.heap.size := by omega
      have n2_1 : w.heap.size + 1 < w2.heap.size := by omega
      have n2_2 : w.heap.size + 2 < w2.heap.size := by omega
      have n2_3 : w.heap.size + 3 < w2.heap.size := by omega
      have r2_0 : w2.cell? ⟨w.heap.size + 3, 0, none⟩ = some (.slice none 0 0) := (kc2 _ _ (by first | assumption | (simp; done) | omega | (simp; omega))).trans (by first | assumption | (simp [go_sem]; done) | (simp; done))
      have g2_0 : w2.frozen? ⟨w.heap.size + 3, 0, none⟩ = false := (kf2 _ _ (by first | assumption | (simp; done) | omega | (simp; omega))).trans (by first | assumption | (simp [go_sem]; done) | (simp; done))
      have r2_1 : w2.cell? ⟨w.heap.size + 3, 1, none⟩ = some (.bool false) := (kc2 _ _ (by first | assumption | (simp; done) | omega | (simp; omega))).trans (by first | assumption | (simp [go_sem]; done) | (simp; done))
      have g2_1 : w2.frozen? ⟨w.heap.size + 3, 1, none⟩ = false := (kf2 _ _ (by first | assumption | (simp; done) | omega | (simp; omega))).trans (by first | assumption | (simp [go_sem]; done) | (simp; done))
      clear hb
      go_wp2
      refine bodyPost_ret (v := .agg #[.slice A1 l1.length c1, .bool s1]) (by simp [results, Tryd.results16, go_sem, *]) rfl ?_
      exact ⟨l1, s1, A1, c1, hide (E1.out.trans HS.out), rfl, C1, hide (OwQ.base (B := w.heap.size + 4) (by (repeat (first | with_reducible exact O1.out | with_reducible refine OwQ.far ?_ (by first | (simp; done) | omega | (simp; omega)) _ | with_reducible refine OwQ.allc ?_ _ | with_reducible refine OwQ.drew ?_ | with_reducible refine OwQ.drewN ?_ _))) (by omega)), by (repeat (first | with_reducible exact Below.refl _ _ | with_reducible assumption | with_reducible refine Below.setCell ?_ (by first | (simp; done) | omega | (simp; omega)) _ | with_reducible refine Below.alloc ?_ (by first | (simp; done) | omega | (simp; omega)) _ | with_reducible refine below_drewN ?_ _ | with_reducible refine Below.drew ?_))⟩
    · have HS := hide (show btw (mMux 2) ⟨a, s⟩ ⟨b, t⟩ = vCond ⟨z, r⟩ ⟨a, s⟩ ⟨b, t⟩ by unfold vCond; rw [← HV.out, if_neg h1, if_neg h0])
      clear HV
      have e1 : (v == 1) = false := by simpa using h1
      have e0 : (v == 0) = false := by simpa using h0
      go_enter Tryd.func16, Tryd.ntmps16
      go_wp2_with fail
      refine (hcall.out _ (by (repeat (first | with_reducible exact Below.refl _ _ | with_reducible assumption | with_reducible refine Below.setCell ?_ (by first | (simp; done) | omega | (simp; omega)) _ | with_reducible refine Below.alloc ?_ (by first | (simp; done) | omega | (simp; omega)) _ | with_reducible refine below_drewN ?_ _ | with_reducible refine Below.drew ?_)))).mono ?_
      rintro e w1 ⟨rfl, hb⟩
      have hB1 : Below w.heap.size w w1 := Below.trans (by (repeat (first | with_reducible exact Below.refl _ _ | with_reducible assumption | with_reducible refine Below.setCell ?_ (by first | (simp; done) | omega | (simp; omega)) _ | with_reducible refine Below.alloc ?_ (by first | (simp; done) | omega | (simp; omega)) _ | with_reducible refine below_drewN ?_ _ | with_reducible refine Below.drew ?_))) (hb.mono (by first | omega | (simp; done) | (simp; omega)))
      obtain ⟨kc1, kf1⟩ := bcell hb
      have hz1 := hb.size
      (try simp at hz1)
      have n1_0 : w.heap.size < w1.heap.size := by omega
      have n1_1 : w.heap.size + 1 < w1.heap.size := by omega
      have n1_2 : w.heap.size + 2 < w1.heap.size := by omega
      have n1_3 : w.heap.size + 3 < w1.heap.size := by omega
      have r1_0 : w1.cell? ⟨w.heap.size + 3, 0, none⟩ = some (.slice none 0 0) := (kc1 _ _ (by first | assumption | (simp; done) | omega | (simp; omega))).trans (by first | assumption | (simp [go_sem]; done) | (simp; done))
      have g1_0 : w1.frozen? ⟨w.heap.size + 3, 0, none⟩ = false := (kf1 _ _ (by first | assumption | (simp; done) | omega | (simp; omega))).trans (by first | assumption | (simp [go_sem]; done) | (simp; done))
      have r1_1 : w1.cell? ⟨w.heap.size + 3, 1, none⟩ = some (.bool false) := (kc1 _ _ (by first | assumption | (simp; done) | omega | (simp; omega))).trans (by first | assumption | (simp [go_sem]; done) | (simp; done))
      have g1_1 : w1.frozen? ⟨w.heap.size + 3, 1, none⟩ = false := (kf1 _ _ (by first | assumption | (simp; done) | omega | (simp; omega))).trans (by first | assumption | (simp [go_sem]; done) | (simp; done))
      clear hb
      go_wp2_with fail
      refine (bitwise_any _ _ opF_mux A B a b c d s t _ LA.out LB.out hca hcb (HA.out.below (by (repeat (first | with_reducible exact Below.refl _ _ | with_reducible assumption | with_reducible refine Below.setCell ?_ (by first | (simp; done) | omega | (simp; omega)) _ | with_reducible refine Below.alloc ?_ (by first | (simp; done) | omega | (simp; omega)) _ | with_reducible refine below_drewN ?_ _ | with_reducible refine Below.drew ?_)))) (HBB.out.below (by (repeat (first | with_reducible exact Below.refl _ _ | with_reducible assumption | with_reducible refine Below.setCell ?_ (by first | (simp; done) | omega | (simp; omega)) _ | with_reducible refine Below.alloc ?_ (by first | (simp; done) | omega | (simp; omega)) _ | with_reducible refine below_drewN ?_ _ | with_reducible refine Below.drew ?_)))) YA.out YB.out (HT.out.kept (by (repeat (first | with_reducible exact Below.refl _ _ | with_reducible assumption | with_reducible refine Below.setCell ?_ (by first | (simp; done) | omega | (simp; omega)) _ | with_reducible refine Below.alloc ?_ (by first | (simp; done) | omega | (simp; omega)) _ | with_reducible refine below_drewN ?_ _ | with_reducible refine Below.drew ?_))))).mono ?_
      rintro e w2 ⟨l1, s1, A1, c1, E1, rfl, C1, O1, hb⟩
      replace O1 := hide (O1.out.base (show w.heap.size + 4 ≤ _ by first | omega | (simp; omega) | (simp; done)))
      have hB2 : Below w.heap.size w w2 := Below.trans (by (repeat (first | with_reducible exact Below.refl _ _ | with_reducible assumption | with_reducible refine Below.setCell ?_ (by first | (simp; done) | omega | (simp; omega)) _ | with_reducible refine Below.alloc ?_ (by first | (simp; done) | omega | (simp; omega)) _ | with_reducible refine below_drewN ?_ _ | with_reducible refine Below.drew ?_))) (hb.mono (by first | omega | (simp; done) | (simp; omega)))
      obtain ⟨kc2, kf2⟩ := bcell hb
      have hz2 := hb.size
      (try simp at hz2)
      have n2_0 : w.heap.size < w2.heap.size := by omega
      have n2_1 : w.heap.size + 1 < w2.heap.size := by omega
      have n2_2 : w.heap.size + 2 < w2.heap.size := by omega
      have n2_3 : w.heap.size + 3 < w2.heap.size := by omega
      have r2_0 : w2.cell? ⟨w.heap.size + 3, 0, none⟩ = some (.slice none 0 0) := (kc2 _ _ (by first | assumption | (simp; done) | omega | (simp; omega))).trans (by first | assumption | (simp [go_sem]; done) | (simp; done))
      have g2_0 : w2.frozen? ⟨w.heap.size + 3, 0, none⟩ = false := (kf2 _ _ (by first | assumption | (simp; done) | omega | (simp; omega))).trans (by first | assumption | (simp [go_sem]; done) | (simp; done))
      have r2_1 : w2.cell? ⟨w.heap.size + 3, 1, none⟩ = some (.bool false) := (kc2 _ _ (by first | assumption | (simp; done) | omega | (simp; omega))).trans (by first | assumption | (simp [go_sem]; done) | (simp; done))
      have g2_1 : w2.frozen? ⟨w.heap.size + 3, 1, none⟩ = false := (kf2 _ _ (by first | assumption | (simp; done) | omega | (simp; omega))).trans (by first | assumption | (simp [go_sem]; done) | (simp; done))
      clear hb
      go_wp2
      refine bodyPost_ret (v := .agg #[.slice A1 l1.length c1, .bool s1]) (by simp [results, Tryd.results16, go_sem, *]) rfl ?_
      exact ⟨l1, s1, A1, c1, hide (E1.out.trans HS.out), rfl, C1, hide (OwQ.base (B := w.heap.size + 4) (by (repeat (first | with_reducible exact O1.out | with_reducible refine OwQ.far ?_ (by first | (simp; done) | omega | (simp; omega)) _ | with_reducible refine OwQ.allc ?_ _ | with_reducible refine OwQ.drew ?_ | with_reducible refine OwQ.drewN ?_ _))) (by omega)), by (repeat (first | with_reducible exact Below.refl _ _ | with_reducible assumption | with_reducible refine Below.setCell ?_ (by first | (simp; done) | omega | (simp; omega)) _ | with_reducible refine Below.alloc ?_ (by first | (simp; done) | omega | (simp; omega)) _ | with_reducible refine below_drewN ?_ _ | with_reducible refine Below.drew ?_))⟩
end
section
open Go.RowKit
set_option maxRecDepth 100000
set_option linter.unusedSimpArgs false
set_option linter.unusedVariables false
set_option maxHeartbeats 4000000 in
theorem vawake_any (w : World) (ht : Tabs w) : Calls Tryd.prog 6 #[] w (Mk (.bool true) w) := by
  have HT := hide ht
  clear ht
  have hU : Below w.heap.size w w := Below.refl _ _
  refine calls_sl (l := []) 196 Tryd.func6 rfl (by kernel_rfl) (by simp) ?_
  refine wp_seq ?_
  refine reg_lit ?_
  refine wpl_runN 1 [(0, .bool false)] (by kernel_rfl) ?_
  refine wpl_end ?_
  refine then_normal ?_
  refine wp_seq ?_
  refine reg_lit ?_
  refine wpl_runN 1 [(1, .func (.func 10) #[] #[])] (by kernel_rfl) ?_
  refine wpl_end ?_
  refine then_normal ?_
  refine wp_seq ?_
  refine reg_lit ?_
  refine wpl_call rfl (by kernel_rfl) (by kernel_rfl) ((vfrom_q 5 8 true _ (by decide) (by decide) (by decide) (by decide)).mono ?_)
  rintro e w1 ⟨le, se, Ae, ce, Ee, rfl, Ce, Oe, hb⟩
  refine ⟨_, rfl, ?_⟩
  replace Ee := hide (ret_e0 Ee.out)
  replace Oe := hide Oe.out.rd
  replace hU := hU.trans (hb.mono hU.size)
  clear hb
  have Ge : Gd le := by have h := congrArg Vc.b Ee.out; dsimp only at h; rw [h]; exact gd_of (by decide +kernel)
  have Le := hide (show le.length ≤ 4096 from Nat.le_trans Ge.le (by decide))
  have Ye := hide Ge.by_
  clear Ge
  refine wpl_runN 3 [(23, .int .i64 0), (22, .agg #[.slice Ae le.length ce, .bool se]), (20, .tuple #[.agg #[.slice Ae le.length ce, .bool se], .int .i64 0])] (by kernel_rfl) ?_
  refine wpl_made (A := Ae) (m := le.length) (c := ce) (s := se) rfl rfl rfl rfl rfl rfl (fun _ => by kernel_rfl) (fun _ => by kernel_rfl) ?_
  intro w2 Ne Be hNe hb
  replace Be := hide Be
  replace Oe := hide (RQ.below Oe.out hb)
  have hze : w.heap.size ≤ Ne := Nat.le_trans hU.size hNe
  clear hNe
  replace hU := hU.trans (hb.mono hU.size)
  clear hb
  refine wpl_runN 1 [(3, .int .i64 0)] (by kernel_rfl) ?_
  refine wpl_end ?_
  refine then_normal ?_
  refine wp_seq ?_
  refine reg_lit ?_
  refine wpl_call rfl (by kernel_rfl) (by kernel_rfl) ((vfrom_q 5 8 false _ (by decide) (by decide) (by decide) (by decide)).mono ?_)
  rintro e w3 ⟨lp, sp, Ap, cp, Ep, rfl, Cp, Op, hb⟩
  refine ⟨_, rfl, ?_⟩
  replace Oe := hide (RQ.below Oe.out hb)
  replace Be := hide (Box.kept Be.out hb)
  replace Ep := hide (ret_e0 Ep.out)
  replace Op := hide Op.out.rd
  replace hU := hU.trans (hb.mono hU.size)
  clear hb
  have Gp : Gd lp := by have h := congrArg Vc.b Ep.out; dsimp only at h; rw [h]; exact gd_of (by decide +kernel)
  have Lp := hide (show lp.length ≤ 4096 from Nat.le_trans Gp.le (by decide))
  have Yp := hide Gp.by_
  clear Gp
  refine wpl_runN 3 [(27, .int .i64 0), (26, .agg #[.slice Ap lp.length cp, .bool sp]), (24, .tuple #[.agg #[.slice Ap lp.length cp, .bool sp], .int .i64 0])] (by kernel_rfl) ?_
  refine wpl_made (A := Ap) (m := lp.length) (c := cp) (s := sp) rfl rfl rfl rfl rfl rfl (fun _ => by kernel_rfl) (fun _ => by kernel_rfl) ?_
  intro w4 Np Bp hNp hb
  replace Bp := hide Bp
  replace Oe := hide (RQ.below Oe.out hb)
  replace Op := hide (RQ.below Op.out hb)
  replace Be := hide (Box.kept Be.out hb)
  have hzp : w.heap.size ≤ Np := Nat.le_trans hU.size hNp
  clear hNp
  replace hU := hU.trans (hb.mono hU.size)
  clear hb
  refine wpl_runN 1 [(5, .int .i64 0)] (by kernel_rfl) ?_
  refine wpl_end ?_
  refine then_normal ?_
  refine wp_seq ?_
  refine reg_lit ?_
  refine wpl_call rfl (by kernel_rfl) (by kernel_rfl) ((vfrom_q (-1) 32 true _ (by decide) (by decide) (by decide) (by decide)).mono ?_)
  rintro e w5 ⟨lm, sm, Am, cm, Em, rfl, Cm, Om, hb⟩
  refine ⟨_, rfl, ?_⟩
  replace Oe := hide (RQ.below Oe.out hb)
  replace Op := hide (RQ.below Op.out hb)
  replace Be := hide (Box.kept Be.out hb)
  replace Bp := hide (Box.kept Bp.out hb)
  replace Em := hide (ret_e0 Em.out)
  replace Om := hide Om.out.rd
  replace hU := hU.trans (hb.mono hU.size)
  clear hb
  have Gm : Gd lm := by have h := congrArg Vc.b Em.out; dsimp only at h; rw [h]; exact gd_of (by decide +kernel)
  have Lm := hide (show lm.length ≤ 4096 from Nat.le_trans Gm.le (by decide))
  have Ym := hide Gm.by_
  clear Gm
  refine wpl_runN 3 [(31, .int .i64 0), (30, .agg #[.slice Am lm.length cm, .bool sm]), (28, .tuple #[.agg #[.slice Am lm.length cm, .bool sm], .int .i64 0])] (by kernel_rfl) ?_
  refine wpl_made (A := Am) (m := lm.length) (c := cm) (s := sm) rfl rfl rfl rfl rfl rfl (fun _ => by kernel_rfl) (fun _ => by kernel_rfl) ?_
  intro w6 Nm Bm hNm hb
  replace Bm := hide Bm
  replace Oe := hide (RQ.below Oe.out hb)
  replace Op := hide (RQ.below Op.out hb)
  replace Om := hide (RQ.below Om.out hb)
  replace Be := hide (Box.kept Be.out hb)
  replace Bp := hide (Box.kept Bp.out hb)
  have hzm : w.heap.size ≤ Nm := Nat.le_trans hU.size hNm
  clear hNm
  replace hU := hU.trans (hb.mono hU.size)
  clear hb
  refine wpl_runN 1 [(7, .int .i64 0)] (by kernel_rfl) ?_
  refine wpl_end ?_
  refine then_normal ?_
  refine wp_seq ?_
  refine reg_lit ?_
  refine wpl_call rfl (by kernel_rfl) (by kernel_rfl) ((vfrom_q 2 32 true _ (by decide) (by decide) (by decide) (by decide)).mono ?_)
  rintro e w7 ⟨lb, sb, Ab, cb, Eb, rfl, Cb, Ob, hb⟩
  refine ⟨_, rfl, ?_⟩
  replace Oe := hide (RQ.below Oe.out hb)
  replace Op := hide (RQ.below Op.out hb)
  replace Om := hide (RQ.below Om.out hb)
  replace Be := hide (Box.kept Be.out hb)
  replace Bp := hide (Box.kept Bp.out hb)
  replace Bm := hide (Box.kept Bm.out hb)
  replace Eb := hide (ret_e0 Eb.out)
  replace Ob := hide Ob.out.rd
  replace hU := hU.trans (hb.mono hU.size)
  clear hb
  have Gb : Gd lb := by have h := congrArg Vc.b Eb.out; dsimp only at h; rw [h]; exact gd_of (by decide +kernel)
  have Lb := hide (show lb.length ≤ 4096 from Nat.le_trans Gb.le (by decide))
  have Yb := hide Gb.by_
  clear Gb
  refine wpl_runN 3 [(35, .int .i64 0), (34, .agg #[.slice Ab lb.length cb, .bool sb]), (32, .tuple #[.agg #[.slice Ab lb.length cb, .bool sb], .int .i64 0])] (by kernel_rfl) ?_
  refine wpl_made (A := Ab) (m := lb.length) (c := cb) (s := sb) rfl rfl rfl rfl rfl rfl (fun _ => by kernel_rfl) (fun _ => by kernel_rfl) ?_
  intro w8 Nb Bb hNb hb
  replace Bb := hide Bb
  replace Oe := hide (RQ.below Oe.out hb)
  replace Op := hide (RQ.below Op.out hb)
  replace Om := hide (RQ.below Om.out hb)
  replace Ob := hide (RQ.below Ob.out hb)
  replace Be := hide (Box.kept Be.out hb)
  replace Bp := hide (Box.kept Bp.out hb)
  replace Bm := hide (Box.kept Bm.out hb)
  have hzb : w.heap.size ≤ Nb := Nat.le_trans hU.size hNb
  clear hNb
  replace hU := hU.trans (hb.mono hU.size)
  clear hb
  refine wpl_runN 1 [(9, .int .i64 0)] (by kernel_rfl) ?_
  refine wpl_end ?_
  refine then_normal ?_
  refine wp_seq ?_
  refine reg_lit ?_
  refine wpl_call rfl (by kernel_rfl) (by kernel_rfl) ((vof_any ⟨#[49, 48]⟩ _ (by decide)).mono ?_)
  rintro e w9 ⟨l1, s1, A1, c1, E1, rfl, C1, O1, hb⟩
  refine ⟨_, rfl, ?_⟩
  replace Oe := hide (RQ.below Oe.out hb)
  replace Op := hide (RQ.below Op.out hb)
  replace Om := hide (RQ.below Om.out hb)
  replace Ob := hide (RQ.below Ob.out hb)
  replace Be := hide (Box.kept Be.out hb)
  replace Bp := hide (Box.kept Bp.out hb)
  replace Bm := hide (Box.kept Bm.out hb)
  replace Bb := hide (Box.kept Bb.out hb)
  replace O1 := hide O1.out.rd
  replace hU := hU.trans (hb.mono hU.size)
  clear hb
  have G1 : Gd l1 := by have h := congrArg Vc.b E1.out; dsimp only at h; rw [h]; exact gd_of (by decide +kernel)
  have L1 := hide (show l1.length ≤ 4096 from Nat.le_trans G1.le (by decide))
  have Y1 := hide G1.by_
  clear G1
  refine wpl_call rfl (by kernel_rfl) (by kernel_rfl) ((vof_any ⟨#[48, 122, 49]⟩ _ (by decide)).mono ?_)
  rintro e w10 ⟨l2, s2, A2, c2, E2, rfl, C2, O2, hb⟩
  refine ⟨_, rfl, ?_⟩
  replace Oe := hide (RQ.below Oe.out hb)
  replace Op := hide (RQ.below Op.out hb)
  replace Om := hide (RQ.below Om.out hb)
  replace Ob := hide (RQ.below Ob.out hb)
  replace O1 := hide (RQ.below O1.out hb)
  replace Be := hide (Box.kept Be.out hb)
  replace Bp := hide (Box.kept Bp.out hb)
  replace Bm := hide (Box.kept Bm.out hb)
  replace Bb := hide (Box.kept Bb.out hb)
  replace O2 := hide O2.out.rd
  replace hU := hU.trans (hb.mono hU.size)
  clear hb
  have G2 : Gd l2 := by have h := congrArg Vc.b E2.out; dsimp only at h; rw [h]; exact gd_of (by decide +kernel)
  have L2 := hide (show l2.length ≤ 4096 from Nat.le_trans G2.le (by decide))
  have Y2 := hide G2.by_
  clear G2
  refine wpl_bs2 rfl (by kernel_rfl) rfl (A0 := A1) (l0 := l1) (c0 := c1) (s0 := s1) (A1 := A2) (l1 := l2) (c1 := c2) (s1 := s2) (by kernel_rfl) (by kernel_rfl) O1.out Y1.out L1.out C1 O2.out Y2.out L2.out C2 ?_
  intro w11 NV11 RV11 hlV11 hNV11 hb
  replace RV11 := hide RV11
  replace Oe := hide (RQ.below Oe.out hb)
  replace Op := hide (RQ.below Op.out hb)
  replace Om := hide (RQ.below Om.out hb)
  replace Ob := hide (RQ.below Ob.out hb)
  replace O1 := hide (RQ.below O1.out hb)
  replace O2 := hide (RQ.below O2.out hb)
  replace Be := hide (Box.kept Be.out hb)
  replace Bp := hide (Box.kept Bp.out hb)
  replace Bm := hide (Box.kept Bm.out hb)
  replace Bb := hide (Box.kept Bb.out hb)
  replace hU := hU.trans (hb.mono hU.size)
  clear hb
  clear hNV11
  refine wpl_call rfl (by kernel_rfl) (by kernel_rfl) ((vConcat_e0 NV11 2 [(A1, l1, c1, s1), (A2, l2, c2, s2)] _ hlV11 (by simp) (by simp) RV11.out (by show cte [⟨l1, s1⟩, ⟨l2, s2⟩] = 0; rw [E1.out, E2.out]; decide +kernel)).mono ?_)
  rintro e w12 ⟨lh, sh, Ah, ch, Eh, rfl, Ch, Oh, hb⟩
  refine ⟨_, rfl, ?_⟩
  replace Oe := hide (RQ.below Oe.out hb)
  replace Op := hide (RQ.below Op.out hb)
  replace Om := hide (RQ.below Om.out hb)
  replace Ob := hide (RQ.below Ob.out hb)
  replace O1 := hide (RQ.below O1.out hb)
  replace O2 := hide (RQ.below O2.out hb)
  replace Be := hide (Box.kept Be.out hb)
  replace Bp := hide (Box.kept Bp.out hb)
  replace Bm := hide (Box.kept Bm.out hb)
  replace Bb := hide (Box.kept Bb.out hb)
  replace Eh := hide (ret_e0 Eh.out)
  replace Oh := hide Oh.out.rd
  replace hU := hU.trans (hb.mono hU.size)
  clear hb
  have Gh : Gd lh := by have h := congrArg Vc.b Eh.out; dsimp only at h; rw [h]; exact (by show Gd (cats [⟨l1, s1⟩, ⟨l2, s2⟩]); rw [E1.out, E2.out]; exact gd_of (by decide +kernel))
  have Lh := hide (show lh.length ≤ 4096 from Nat.le_trans Gh.le (by decide))
  have Yh := hide Gh.by_
  clear Gh
  replace Eh := hide (show (⟨lh, sh⟩ : Vc) = ⟨cats [⟨ofB ⟨#[49, 48]⟩, false⟩, ⟨ofB ⟨#[48, 122, 49]⟩, false⟩], false⟩ from Eh.out.trans (by show (⟨cats [⟨l1, s1⟩, ⟨l2, s2⟩], false⟩ : Vc) = _; rw [E1.out, E2.out]))
  clear RV11
  clear O1 C1 L1 Y1
  clear O2 C2 L2 Y2
  refine wpl_runN 3 [(42, .int .i64 0), (41, .agg #[.slice Ah lh.length ch, .bool sh]), (36, .tuple #[.agg #[.slice Ah lh.length ch, .bool sh], .int .i64 0])] (by kernel_rfl) ?_
  refine wpl_made (A := Ah) (m := lh.length) (c := ch) (s := sh) rfl rfl rfl rfl rfl rfl (fun _ => by kernel_rfl) (fun _ => by kernel_rfl) ?_
  intro w13 Nh Bh hNh hb
  replace Bh := hide Bh
  replace Oe := hide (RQ.below Oe.out hb)
  replace Op := hide (RQ.below Op.out hb)
  replace Om := hide (RQ.below Om.out hb)
  replace Ob := hide (RQ.below Ob.out hb)
  replace Oh := hide (RQ.below Oh.out hb)
  replace Be := hide (Box.kept Be.out hb)
  replace Bp := hide (Box.kept Bp.out hb)
  replace Bm := hide (Box.kept Bm.out hb)
  replace Bb := hide (Box.kept Bb.out hb)
  have hzh : w.heap.size ≤ Nh := Nat.le_trans hU.size hNh
  clear hNh
  replace hU := hU.trans (hb.mono hU.size)
  clear hb
  refine wpl_runN 1 [(11, .int .i64 0)] (by kernel_rfl) ?_
  refine wpl_end ?_
  refine then_normal ?_
  refine wp_seq ?_
  refine reg_lit ?_
  refine wpl_call rfl (by kernel_rfl) (by kernel_rfl) ((vof_any ⟨#[49, 48, 49, 49]⟩ _ (by decide)).mono ?_)
  rintro e w14 ⟨l1, s1, A1, c1, E1, rfl, C1, O1, hb⟩
  refine ⟨_, rfl, ?_⟩
  replace Oe := hide (RQ.below Oe.out hb)
  replace Op := hide (RQ.below Op.out hb)
  replace Om := hide (RQ.below Om.out hb)
  replace Ob := hide (RQ.below Ob.out hb)
  replace Oh := hide (RQ.below Oh.out hb)
  replace Be := hide (Box.kept Be.out hb)
  replace Bp := hide (Box.kept Bp.out hb)
  replace Bm := hide (Box.kept Bm.out hb)
  replace Bb := hide (Box.kept Bb.out hb)
  replace Bh := hide (Box.kept Bh.out hb)
  replace O1 := hide O1.out.rd
  replace hU := hU.trans (hb.mono hU.size)
  clear hb
  have G1 : Gd l1 := by have h := congrArg Vc.b E1.out; dsimp only at h; rw [h]; exact gd_of (by decide +kernel)
  have L1 := hide (show l1.length ≤ 4096 from Nat.le_trans G1.le (by decide))
  have Y1 := hide G1.by_
  clear G1
  refine wpl_call rfl (by kernel_rfl) (by kernel_rfl) ((vSlice_e0 4 2 A1 l1 c1 s1 _ L1.out C1 O1.out Y1.out (by decide) (by decide) (by decide) (by decide) (by decide)).mono ?_)
  rintro e w15 ⟨lt, st, At, ct, Et, rfl, Ct, Ot, hb⟩
  refine ⟨_, rfl, ?_⟩
  replace Oe := hide (RQ.below Oe.out hb)
  replace Op := hide (RQ.below Op.out hb)
  replace Om := hide (RQ.below Om.out hb)
  replace Ob := hide (RQ.below Ob.out hb)
  replace Oh := hide (RQ.below Oh.out hb)
  replace O1 := hide (RQ.below O1.out hb)
  replace Be := hide (Box.kept Be.out hb)
  replace Bp := hide (Box.kept Bp.out hb)
  replace Bm := hide (Box.kept Bm.out hb)
  replace Bb := hide (Box.kept Bb.out hb)
  replace Bh := hide (Box.kept Bh.out hb)
  replace Et := hide (ret_e0 Et.out)
  replace Ot := hide Ot.out.rd
  replace hU := hU.trans (hb.mono hU.size)
  clear hb
  have Gt : Gd lt := by have h := congrArg Vc.b Et.out; dsimp only at h; rw [h]; exact (by rw [E1.out]; exact gd_of (by decide +kernel))
  have Lt := hide (show lt.length ≤ 4096 from Nat.le_trans Gt.le (by decide))
  have Yt := hide Gt.by_
  clear Gt
  replace Et := hide (show (⟨lt, st⟩ : Vc) = ⟨wdw (cnt ⟨ofB ⟨#[49, 48, 49, 49]⟩, false⟩).b 2 (4 - 2 + 1 : Int).toNat 2, false⟩ from Et.out.trans (by rw [E1.out]))
  clear O1 C1 L1 Y1
  refine wpl_runN 3 [(47, .int .i64 0), (46, .agg #[.slice At lt.length ct, .bool st]), (43, .tuple #[.agg #[.slice At lt.length ct, .bool st], .int .i64 0])] (by kernel_rfl) ?_
  refine wpl_made (A := At) (m := lt.length) (c := ct) (s := st) rfl rfl rfl rfl rfl rfl (fun _ => by kernel_rfl) (fun _ => by kernel_rfl) ?_
  intro w16 Nt Bt hNt hb
  replace Bt := hide Bt
  replace Oe := hide (RQ.below Oe.out hb)
  replace Op := hide (RQ.below Op.out hb)
  replace Om := hide (RQ.below Om.out hb)
  replace Ob := hide (RQ.below Ob.out hb)
  replace Oh := hide (RQ.below Oh.out hb)
  replace Ot := hide (RQ.below Ot.out hb)
  replace Be := hide (Box.kept Be.out hb)
  replace Bp := hide (Box.kept Bp.out hb)
  replace Bm := hide (Box.kept Bm.out hb)
  replace Bb := hide (Box.kept Bb.out hb)
  replace Bh := hide (Box.kept Bh.out hb)
  have hzt : w.heap.size ≤ Nt := Nat.le_trans hU.size hNt
  clear hNt
  replace hU := hU.trans (hb.mono hU.size)
  clear hb
  refine wpl_runN 1 [(13, .int .i64 0)] (by kernel_rfl) ?_
  refine wpl_end ?_
  refine then_normal ?_
  refine wp_seq ?_
  refine wp_seq ?_
  refine reg_lit ?_
  refine wpl_runN 22 [(69, .bool false), (68, .bool false), (67, .int .i64 0), (66, .bool false), (65, .bool false), (64, .bool false), (63, .int .i64 0), (62, .bool false), (61, .bool false), (60, .bool false), (59, .int .i64 0), (58, .bool false), (57, .bool false), (56, .bool false), (55, .int .i64 0), (54, .bool false), (53, .bool false), (52, .bool false), (51, .int .i64 0), (50, .bool false), (49, .bool false), (48, .int .i64 0)] (by kernel_rfl) ?_
  refine wpl_end ?_
  refine then_normal ?_
  refine wp_iff (by kernel_rfl) ?_
  refine wp_skip ?_
  refine then_normal ?_
  refine wp_seq ?_
  refine region_R (n := 8) (N := 9) (by kernel_rfl) (by kernel_rfl) (by kernel_rfl) (by kernel_rfl) (by kernel_rfl) (by kernel_rfl) (fun _ _ _ _ _ h => h) ?_
  intro F hQ
  have Be0 := Be
  have Bp0 := Bp
  have Bm0 := Bm
  have Bb0 := Bb
  have Bh0 := Bh
  have Bt0 := Bt
  refine anyR_ldvec (i := 1) (m' := 2) Bp0.out F hQ rfl rfl (by kernel_rfl) (by kernel_rfl) (by kernel_rfl) (by kernel_rfl) (by kernel_rfl) rfl (by kernel_rfl) ?_
  refine anyR_call (i := 0) (m' := 3) rfl rfl (by kernel_rfl) (by kernel_rfl) (by kernel_rfl) (by kernel_rfl) (by kernel_rfl) ((vsof_any ⟨#[49, 49, 48, 49]⟩ _ (by decide)).mono ?_)
  rintro e w17 ⟨l1, s1, A1, c1, E1, rfl, C1, O1, hb⟩
  refine ⟨_, rfl, hb, ?_⟩
  replace hb : Below w16.heap.size w16 w17 := Below.trans ((Below.refl _ _).drew) hb
  replace Oe := hide (RQ.below Oe.out hb)
  replace Op := hide (RQ.below Op.out hb)
  replace Om := hide (RQ.below Om.out hb)
  replace Ob := hide (RQ.below Ob.out hb)
  replace Oh := hide (RQ.below Oh.out hb)
  replace Ot := hide (RQ.below Ot.out hb)
  replace Be := hide (Box.kept Be.out hb)
  replace Bp := hide (Box.kept Bp.out hb)
  replace Bm := hide (Box.kept Bm.out hb)
  replace Bb := hide (Box.kept Bb.out hb)
  replace Bh := hide (Box.kept Bh.out hb)
  replace Bt := hide (Box.kept Bt.out hb)
  replace O1 := hide O1.out.rd
  replace hU := hU.trans (hb.mono hU.size)
  clear hb
  have G1 : Gd l1 := by have h := congrArg Vc.b E1.out; dsimp only at h; rw [h]; exact gd_of (by decide +kernel)
  have L1 := hide (show l1.length ≤ 4096 from Nat.le_trans G1.le (by decide))
  have Y1 := hide G1.by_
  clear G1
  refine anyR_call (i := 2) (m' := 7) rfl rfl (by kernel_rfl) (by kernel_rfl) (by kernel_rfl) (by kernel_rfl) (by kernel_rfl) ((vAdd_any A1 Ap l1 lp c1 cp s1 sp _ L1.out Lp.out C1 Cp O1.out Op.out Y1.out Yp.out).mono ?_)
  rintro e w18 ⟨l2, s2, A2, c2, E2, rfl, C2, O2, hb⟩
  refine ⟨_, rfl, hb, ?_⟩
  replace Oe := hide (RQ.below Oe.out hb)
  replace Op := hide (RQ.below Op.out hb)
  replace Om := hide (RQ.below Om.out hb)
  replace Ob := hide (RQ.below Ob.out hb)
  replace Oh := hide (RQ.below Oh.out hb)
  replace Ot := hide (RQ.below Ot.out hb)
  replace O1 := hide (RQ.below O1.out hb)
  replace Be := hide (Box.kept Be.out hb)
  replace Bp := hide (Box.kept Bp.out hb)
  replace Bm := hide (Box.kept Bm.out hb)
  replace Bb := hide (Box.kept Bb.out hb)
  replace Bh := hide (Box.kept Bh.out hb)
  replace Bt := hide (Box.kept Bt.out hb)
  replace O2 := hide O2.out.rd
  replace hU := hU.trans (hb.mono hU.size)
  clear hb
  have G2 : Gd l2 := by have h := congrArg Vc.b E2.out; dsimp only at h; rw [h]; exact (by rw [E1.out, Ep.out]; exact gd_of (by decide +kernel))
  have L2 := hide (show l2.length ≤ 4096 from Nat.le_trans G2.le (by decide))
  have Y2 := hide G2.by_
  clear G2
  replace E2 := hide (show (⟨l2, s2⟩ : Vc) = vAdd ⟨ofB ⟨#[49, 49, 48, 49]⟩, true⟩ ⟨fb (vz 8 5), false⟩ from E2.out.trans (by rw [E1.out, Ep.out]))
  clear O1 C1 L1 Y1
  refine anyR_call (i := 3) (m' := 15) rfl rfl (by kernel_rfl) (by kernel_rfl) (by kernel_rfl) (by kernel_rfl) (by kernel_rfl) ((vint_val (18) A2 l2 c2 s2 _ L2.out C2 O2.out Y2.out (by rw [E2.out]; decide +kernel) (by rw [E2.out]; decide +kernel) (by decide) (by decide)).mono ?_)
  rintro e w19 ⟨rfl, hb⟩
  refine ⟨_, rfl, hb, ?_⟩
  replace Oe := hide (RQ.below Oe.out hb)
  replace Op := hide (RQ.below Op.out hb)
  replace Om := hide (RQ.below Om.out hb)
  replace Ob := hide (RQ.below Ob.out hb)
  replace Oh := hide (RQ.below Oh.out hb)
  replace Ot := hide (RQ.below Ot.out hb)
  replace O2 := hide (RQ.below O2.out hb)
  replace Be := hide (Box.kept Be.out hb)
  replace Bp := hide (Box.kept Bp.out hb)
  replace Bm := hide (Box.kept Bm.out hb)
  replace Bb := hide (Box.kept Bb.out hb)
  replace Bh := hide (Box.kept Bh.out hb)
  replace Bt := hide (Box.kept Bt.out hb)
  replace hU := hU.trans (hb.mono hU.size)
  clear hb
  clear O2 C2 L2 Y2
  refine anyR_val (i := 4) (m' := 31) (v := .tuple #[.int .i64 18, .bool true]) F hQ rfl rfl (by kernel_rfl) (by kernel_rfl) (by kernel_rfl) (by kernel_rfl) (by kernel_rfl) (fun _ _ => by kernel_rfl) ?_
  refine anyR_val (i := 5) (m' := 63) (v := .int .i64 18) F hQ rfl rfl (by kernel_rfl) (by kernel_rfl) (by kernel_rfl) (by kernel_rfl) (by kernel_rfl) (fun _ _ => by kernel_rfl) ?_
  refine anyR_val (i := 6) (m' := 127) (v := .bool true) F hQ rfl rfl (by kernel_rfl) (by kernel_rfl) (by kernel_rfl) (by kernel_rfl) (by kernel_rfl) (fun _ _ => by kernel_rfl) ?_
  refine anyR_val (i := 7) (m' := 255) (v := .int .i64 18) F hQ rfl rfl (by kernel_rfl) (by kernel_rfl) (by kernel_rfl) (by kernel_rfl) (by kernel_rfl) (fun _ _ => by kernel_rfl) ?_
  refine anyR_e ?_
  refine anyR_last (i := 8) (m' := 511) (v := .bool true) rfl rfl (by kernel_rfl) (by kernel_rfl) (by kernel_rfl) (by kernel_rfl) (by kernel_rfl) ?_
  refine anyE_done (by kernel_rfl) ?_
  clear F hQ Be0 Bp0 Bm0 Bb0 Bh0 Bt0
  refine then_normal ?_
  refine wp_seq ?_
  refine region_R (n := 8) (N := 9) (by kernel_rfl) (by kernel_rfl) (by kernel_rfl) (by kernel_rfl) (by kernel_rfl) (by kernel_rfl) (fun _ _ _ _ _ h => h) ?_
  intro F hQ
  have Be0 := Be
  have Bp0 := Bp
  have Bm0 := Bm
  have Bb0 := Bb
  have Bh0 := Bh
  have Bt0 := Bt
  refine anyR_ldvec (i := 1) (m' := 2) Be0.out F hQ rfl rfl (by kernel_rfl) (by kernel_rfl) (by kernel_rfl) (by kernel_rfl) (by kernel_rfl) rfl (by kernel_rfl) ?_
  refine anyR_call (i := 0) (m' := 3) rfl rfl (by kernel_rfl) (by kernel_rfl) (by kernel_rfl) (by kernel_rfl) (by kernel_rfl) ((vsof_any ⟨#[49, 49, 48, 49]⟩ _ (by decide)).mono ?_)
  rintro e w20 ⟨l1, s1, A1, c1, E1, rfl, C1, O1, hb⟩
  refine ⟨_, rfl, hb, ?_⟩
  replace hb : Below w19.heap.size w19 w20 := Below.trans ((Below.refl _ _).drew) hb
  replace Oe := hide (RQ.below Oe.out hb)
  replace Op := hide (RQ.below Op.out hb)
  replace Om := hide (RQ.below Om.out hb)
  replace Ob := hide (RQ.below Ob.out hb)
  replace Oh := hide (RQ.below Oh.out hb)
  replace Ot := hide (RQ.below Ot.out hb)
  replace Be := hide (Box.kept Be.out hb)
  replace Bp := hide (Box.kept Bp.out hb)
  replace Bm := hide (Box.kept Bm.out hb)
  replace Bb := hide (Box.kept Bb.out hb)
  replace Bh := hide (Box.kept Bh.out hb)
  replace Bt := hide (Box.kept Bt.out hb)
  replace O1 := hide O1.out.rd
  replace hU := hU.trans (hb.mono hU.size)
  clear hb
  have G1 : Gd l1 := by have h := congrArg Vc.b E1.out; dsimp only at h; rw [h]; exact gd_of (by decide +kernel)
  have L1 := hide (show l1.length ≤ 4096 from Nat.le_trans G1.le (by decide))
  have Y1 := hide G1.by_
  clear G1
  refine anyR_call (i := 2) (m' := 7) rfl rfl (by kernel_rfl) (by kernel_rfl) (by kernel_rfl) (by kernel_rfl) (by kernel_rfl) ((vAdd_any A1 Ae l1 le c1 ce s1 se _ L1.out Le.out C1 Ce O1.out Oe.out Y1.out Ye.out).mono ?_)
  rintro e w21 ⟨l2, s2, A2, c2, E2, rfl, C2, O2, hb⟩
  refine ⟨_, rfl, hb, ?_⟩
  replace Oe := hide (RQ.below Oe.out hb)
  replace Op := hide (RQ.below Op.out hb)
  replace Om := hide (RQ.below Om.out hb)
  replace Ob := hide (RQ.below Ob.out hb)
  replace Oh := hide (RQ.below Oh.out hb)
  replace Ot := hide (RQ.below Ot.out hb)
  replace O1 := hide (RQ.below O1.out hb)
  replace Be := hide (Box.kept Be.out hb)
  replace Bp := hide (Box.kept Bp.out hb)
  replace Bm := hide (Box.kept Bm.out hb)
  replace Bb := hide (Box.kept Bb.out hb)
  replace Bh := hide (Box.kept Bh.out hb)
  replace Bt := hide (Box.kept Bt.out hb)
  replace O2 := hide O2.out.rd
  replace hU := hU.trans (hb.mono hU.size)
  clear hb
  have G2 : Gd l2 := by have h := congrArg Vc.b E2.out; dsimp only at h; rw [h]; exact (by rw [E1.out, Ee.out]; exact gd_of (by decide +kernel))
  have L2 := hide (show l2.length ≤ 4096 from Nat.le_trans G2.le (by decide))
  have Y2 := hide G2.by_
  clear G2
  replace E2 := hide (show (⟨l2, s2⟩ : Vc) = vAdd ⟨ofB ⟨#[49, 49, 48, 49]⟩, true⟩ ⟨fb (vz 8 5), true⟩ from E2.out.trans (by rw [E1.out, Ee.out]))
  clear O1 C1 L1 Y1
  refine anyR_call (i := 3) (m' := 15) rfl rfl (by kernel_rfl) (by kernel_rfl) (by kernel_rfl) (by kernel_rfl) (by kernel_rfl) ((vint_val (2) A2 l2 c2 s2 _ L2.out C2 O2.out Y2.out (by rw [E2.out]; decide +kernel) (by rw [E2.out]; decide +kernel) (by decide) (by decide)).mono ?_)
  rintro e w22 ⟨rfl, hb⟩
  refine ⟨_, rfl, hb, ?_⟩
  replace Oe := hide (RQ.below Oe.out hb)
  replace Op := hide (RQ.below Op.out hb)
  replace Om := hide (RQ.below Om.out hb)
  replace Ob := hide (RQ.below Ob.out hb)
  replace Oh := hide (RQ.below Oh.out hb)
  replace Ot := hide (RQ.below Ot.out hb)
  replace O2 := hide (RQ.below O2.out hb)
  replace Be := hide (Box.kept Be.out hb)
  replace Bp := hide (Box.kept Bp.out hb)
  replace Bm := hide (Box.kept Bm.out hb)
  replace Bb := hide (Box.kept Bb.out hb)
  replace Bh := hide (Box.kept Bh.out hb)
  replace Bt := hide (Box.kept Bt.out hb)
  replace hU := hU.trans (hb.mono hU.size)
  clear hb
  clear O2 C2 L2 Y2
  refine anyR_val (i := 4) (m' := 31) (v := .tuple #[.int .i64 2, .bool true]) F hQ rfl rfl (by kernel_rfl) (by kernel_rfl) (by kernel_rfl) (by kernel_rfl) (by kernel_rfl) (fun _ _ => by kernel_rfl) ?_
  refine anyR_val (i := 5) (m' := 63) (v := .int .i64 2) F hQ rfl rfl (by kernel_rfl) (by kernel_rfl) (by kernel_rfl) (by kernel_rfl) (by kernel_rfl) (fun _ _ => by kernel_rfl) ?_
  refine anyR_val (i := 6) (m' := 127) (v := .bool true) F hQ rfl rfl (by kernel_rfl) (by kernel_rfl) (by kernel_rfl) (by kernel_rfl) (by kernel_rfl) (fun _ _ => by kernel_rfl) ?_
  refine anyR_val (i := 7) (m' := 255) (v := .int .i64 2) F hQ rfl rfl (by kernel_rfl) (by kernel_rfl) (by kernel_rfl) (by kernel_rfl) (by kernel_rfl) (fun _ _ => by kernel_rfl) ?_
  refine anyR_e ?_
  refine anyR_last (i := 8) (m' := 511) (v := .bool true) rfl rfl (by kernel_rfl) (by kernel_rfl) (by kernel_rfl) (by kernel_rfl) (by kernel_rfl) ?_
  refine anyE_done (by kernel_rfl) ?_
  clear F hQ Be0 Bp0 Bm0 Bb0 Bh0 Bt0
  refine then_normal ?_
  refine wp_seq ?_
  refine reg_lit ?_
  refine wpl_ldvec Bb.out rfl (by kernel_rfl) rfl (by kernel_rfl) ?_
  refine wpl_ldvec Bm.out rfl (by kernel_rfl) rfl (by kernel_rfl) ?_
  refine wpl_call rfl (by kernel_rfl) (by kernel_rfl) ((vPow_any Ab Am lb lm cb cm sb sm _ Lb.out Lm.out Cb Cm Ob.out Om.out Yb.out Ym.out (HT.out.kept hU)).mono ?_)
  rintro e w23 ⟨l1, s1, A1, c1, E1, rfl, C1, O1, hb⟩
  refine ⟨_, rfl, ?_⟩
  replace Oe := hide (RQ.below Oe.out hb)
  replace Op := hide (RQ.below Op.out hb)
  replace Om := hide (RQ.below Om.out hb)
  replace Ob := hide (RQ.below Ob.out hb)
  replace Oh := hide (RQ.below Oh.out hb)
  replace Ot := hide (RQ.below Ot.out hb)
  replace Be := hide (Box.kept Be.out hb)
  replace Bp := hide (Box.kept Bp.out hb)
  replace Bm := hide (Box.kept Bm.out hb)
  replace Bb := hide (Box.kept Bb.out hb)
  replace Bh := hide (Box.kept Bh.out hb)
  replace Bt := hide (Box.kept Bt.out hb)
  replace O1 := hide O1.out.rd
  replace hU := hU.trans (hb.mono hU.size)
  clear hb
  have G1 : Gd l1 := by have h := congrArg Vc.b E1.out; dsimp only at h; rw [h]; exact (by rw [Eb.out, Em.out]; exact gd_of (by decide +kernel))
  have L1 := hide (show l1.length ≤ 4096 from Nat.le_trans G1.le (by decide))
  have Y1 := hide G1.by_
  clear G1
  replace E1 := hide (show (⟨l1, s1⟩ : Vc) = vPow ⟨fb (vz 32 2), true⟩ ⟨fb (vz 32 (-1)), true⟩ from E1.out.trans (by rw [Eb.out, Em.out]))
  refine wpl_call rfl (by kernel_rfl) (by kernel_rfl) ((vint_val (0) A1 l1 c1 s1 _ L1.out C1 O1.out Y1.out (by rw [E1.out]; decide +kernel) (by rw [E1.out]; decide +kernel) (by decide) (by decide)).mono ?_)
  rintro e w24 ⟨rfl, hb⟩
  refine ⟨_, rfl, ?_⟩
  replace Oe := hide (RQ.below Oe.out hb)
  replace Op := hide (RQ.below Op.out hb)
  replace Om := hide (RQ.below Om.out hb)
  replace Ob := hide (RQ.below Ob.out hb)
  replace Oh := hide (RQ.below Oh.out hb)
  replace Ot := hide (RQ.below Ot.out hb)
  replace O1 := hide (RQ.below O1.out hb)
  replace Be := hide (Box.kept Be.out hb)
  replace Bp := hide (Box.kept Bp.out hb)
  replace Bm := hide (Box.kept Bm.out hb)
  replace Bb := hide (Box.kept Bb.out hb)
  replace Bh := hide (Box.kept Bh.out hb)
  replace Bt := hide (Box.kept Bt.out hb)
  replace hU := hU.trans (hb.mono hU.size)
  clear hb
  clear O1 C1 L1 Y1
  refine wpl_runN 5 [(19, .bool true), (18, .int .i64 0), (90, .bool true), (89, .int .i64 0), (84, .tuple #[.int .i64 0, .bool true])] (by kernel_rfl) ?_
  refine wpl_end ?_
  refine then_normal ?_
  refine wp_seq ?_
  refine wp_seq ?_
  refine reg_lit ?_
  refine wpl_runN 22 [(112, .bool false), (111, .bool false), (110, .int .i64 0), (109, .bool false), (108, .bool false), (107, .bool false), (106, .bool true), (105, .bool false), (104, .bool false), (103, .bool false), (102, .int .i64 2), (101, .bool false), (100, .bool false), (99, .bool false), (98, .bool true), (97, .bool false), (96, .bool false), (95, .bool false), (94, .int .i64 18), (93, .bool false), (92, .bool false), (91, .bool true)] (by kernel_rfl) ?_
  refine wpl_end ?_
  refine then_normal ?_
  refine wp_iff (by kernel_rfl) ?_
  refine wp_skip ?_
  refine then_normal ?_
  refine wp_seq ?_
  refine region_R (n := 83) (N := 84) (by kernel_rfl) (by kernel_rfl) (by kernel_rfl) (by kernel_rfl) (by kernel_rfl) (by kernel_rfl) (fun _ _ _ _ _ h => h) ?_
  intro F hQ
  have Be0 := Be
  have Bp0 := Bp
  have Bm0 := Bm
  have Bb0 := Bb
  have Bh0 := Bh
  have Bt0 := Bt
  refine anyR_val (i := 0) (m' := 1) (v := .func (.func 10) #[] #[]) F hQ rfl rfl (by kernel_rfl) (by kernel_rfl) (by kernel_rfl) (by kernel_rfl) (by kernel_rfl) (fun _ _ => by kernel_rfl) ?_
  refine anyR_call (i := 1) (m' := 3) rfl rfl (by kernel_rfl) (by kernel_rfl) (by kernel_rfl) (by kernel_rfl) (by kernel_rfl) ((vof_any ⟨#[49, 120, 48, 48]⟩ _ (by decide)).mono ?_)
  rintro e w25 ⟨l1, s1, A1, c1, E1, rfl, C1, O1, hb⟩
  refine ⟨_, rfl, hb, ?_⟩
  replace hb : Below w24.heap.size w24 w25 := Below.trans ((Below.refl _ _).drew) hb
  replace Oe := hide (RQ.below Oe.out hb)
  replace Op := hide (RQ.below Op.out hb)
  replace Om := hide (RQ.below Om.out hb)
  replace Ob := hide (RQ.below Ob.out hb)
  replace Oh := hide (RQ.below Oh.out hb)
  replace Ot := hide (RQ.below Ot.out hb)
  replace Be := hide (Box.kept Be.out hb)
  replace Bp := hide (Box.kept Bp.out hb)
  replace Bm := hide (Box.kept Bm.out hb)
  replace Bb := hide (Box.kept Bb.out hb)
  replace Bh := hide (Box.kept Bh.out hb)
  replace Bt := hide (Box.kept Bt.out hb)
  replace O1 := hide O1.out.rd
  replace hU := hU.trans (hb.mono hU.size)
  clear hb
  have G1 : Gd l1 := by have h := congrArg Vc.b E1.out; dsimp only at h; rw [h]; exact gd_of (by decide +kernel)
  have L1 := hide (show l1.length ≤ 4096 from Nat.le_trans G1.le (by decide))
  have Y1 := hide G1.by_
  clear G1
  refine anyR_call (i := 2) (m' := 7) rfl rfl (by kernel_rfl) (by kernel_rfl) (by kernel_rfl) (by kernel_rfl) (by kernel_rfl) ((vof_any ⟨#[48, 49, 49, 48]⟩ _ (by decide)).mono ?_)
  rintro e w26 ⟨l2, s2, A2, c2, E2, rfl, C2, O2, hb⟩
  refine ⟨_, rfl, hb, ?_⟩
  replace Oe := hide (RQ.below Oe.out hb)
  replace Op := hide (RQ.below Op.out hb)
  replace Om := hide (RQ.below Om.out hb)
  replace Ob := hide (RQ.below Ob.out hb)
  replace Oh := hide (RQ.below Oh.out hb)
  replace Ot := hide (RQ.below Ot.out hb)
  replace O1 := hide (RQ.below O1.out hb)
  replace Be := hide (Box.kept Be.out hb)
  replace Bp := hide (Box.kept Bp.out hb)
  replace Bm := hide (Box.kept Bm.out hb)
  replace Bb := hide (Box.kept Bb.out hb)
  replace Bh := hide (Box.kept Bh.out hb)
  replace Bt := hide (Box.kept Bt.out hb)
  replace O2 := hide O2.out.rd
  replace hU := hU.trans (hb.mono hU.size)
  clear hb
  have G2 : Gd l2 := by have h := congrArg Vc.b E2.out; dsimp only at h; rw [h]; exact gd_of (by decide +kernel)
  have L2 := hide (show l2.length ≤ 4096 from Nat.le_trans G2.le (by decide))
  have Y2 := hide G2.by_
  clear G2
  refine anyR_call (i := 3) (m' := 15) rfl rfl (by kernel_rfl) (by kernel_rfl) (by kernel_rfl) (by kernel_rfl) (by kernel_rfl) ((vAnd_any A1 A2 l1 l2 c1 c2 s1 s2 _ L1.out L2.out C1 C2 O1.out O2.out Y1.out Y2.out (HT.out.kept hU)).mono ?_)
  rintro e w27 ⟨l3, s3, A3, c3, E3, rfl, C3, O3, hb⟩
  refine ⟨_, rfl, hb, ?_⟩
  replace Oe := hide (RQ.below Oe.out hb)
  replace Op := hide (RQ.below Op.out hb)
  replace Om := hide (RQ.below Om.out hb)
  replace Ob := hide (RQ.below Ob.out hb)
  replace Oh := hide (RQ.below Oh.out hb)
  replace Ot := hide (RQ.below Ot.out hb)
  replace O1 := hide (RQ.below O1.out hb)
  replace O2 := hide (RQ.below O2.out hb)
  replace Be := hide (Box.kept Be.out hb)
  replace Bp := hide (Box.kept Bp.out hb)
  replace Bm := hide (Box.kept Bm.out hb)
  replace Bb := hide (Box.kept Bb.out hb)
  replace Bh := hide (Box.kept Bh.out hb)
  replace Bt := hide (Box.kept Bt.out hb)
  replace O3 := hide O3.out.rd
  replace hU := hU.trans (hb.mono hU.size)
  clear hb
  have G3 : Gd l3 := by have h := congrArg Vc.b E3.out; dsimp only at h; rw [h]; exact (by rw [E1.out, E2.out]; exact gd_of (by decide +kernel))
  have L3 := hide (show l3.length ≤ 4096 from Nat.le_trans G3.le (by decide))
  have Y3 := hide G3.by_
  clear G3
  replace E3 := hide (show (⟨l3, s3⟩ : Vc) = btw mAnd ⟨ofB ⟨#[49, 120, 48, 48]⟩, false⟩ ⟨ofB ⟨#[48, 49, 49, 48]⟩, false⟩ from E3.out.trans (by rw [E1.out, E2.out]))
  clear O1 C1 L1 Y1
  clear O2 C2 L2 Y2
  refine anyR_call (i := 4) (m' := 31) rfl rfl (by kernel_rfl) (by kernel_rfl) (by kernel_rfl) (by kernel_rfl) (by kernel_rfl) ((vof_any ⟨#[48, 120, 48, 48]⟩ _ (by decide)).mono ?_)
  rintro e w28 ⟨l4, s4, A4, c4, E4, rfl, C4, O4, hb⟩
  refine ⟨_, rfl, hb, ?_⟩
  replace Oe := hide (RQ.below Oe.out hb)
  replace Op := hide (RQ.below Op.out hb)
  replace Om := hide (RQ.below Om.out hb)
  replace Ob := hide (RQ.below Ob.out hb)
  replace Oh := hide (RQ.below Oh.out hb)
  replace Ot := hide (RQ.below Ot.out hb)
  replace O3 := hide (RQ.below O3.out hb)
  replace Be := hide (Box.kept Be.out hb)
  replace Bp := hide (Box.kept Bp.out hb)
  replace Bm := hide (Box.kept Bm.out hb)
  replace Bb := hide (Box.kept Bb.out hb)
  replace Bh := hide (Box.kept Bh.out hb)
  replace Bt := hide (Box.kept Bt.out hb)
  replace O4 := hide O4.out.rd
  replace hU := hU.trans (hb.mono hU.size)
  clear hb
  have G4 : Gd l4 := by have h := congrArg Vc.b E4.out; dsimp only at h; rw [h]; exact gd_of (by decide +kernel)
  have L4 := hide (show l4.length ≤ 4096 from Nat.le_trans G4.le (by decide))
  have Y4 := hide G4.by_
  clear G4
  refine anyR_call (i := 5) (m' := 63) rfl rfl (by kernel_rfl) (by kernel_rfl) (by kernel_rfl) (by kernel_rfl) (by kernel_rfl) ((rsame_yes A3 A4 l3 l4 c3 c4 s3 s4 _ L3.out L4.out O3.out O4.out (by rw [E3.out, E4.out]; exact (sm_iff _ _).1 (by decide +kernel))).mono ?_)
  rintro e w29 ⟨rfl, hb⟩
  refine ⟨_, rfl, hb, ?_⟩
  replace Oe := hide (RQ.below Oe.out hb)
  replace Op := hide (RQ.below Op.out hb)
  replace Om := hide (RQ.below Om.out hb)
  replace Ob := hide (RQ.below Ob.out hb)
  replace Oh := hide (RQ.below Oh.out hb)
  replace Ot := hide (RQ.below Ot.out hb)
  replace O3 := hide (RQ.below O3.out hb)
  replace O4 := hide (RQ.below O4.out hb)
  replace Be := hide (Box.kept Be.out hb)
  replace Bp := hide (Box.kept Bp.out hb)
  replace Bm := hide (Box.kept Bm.out hb)
  replace Bb := hide (Box.kept Bb.out hb)
  replace Bh := hide (Box.kept Bh.out hb)
  replace Bt := hide (Box.kept Bt.out hb)
  replace hU := hU.trans (hb.mono hU.size)
  clear hb
  clear O3 C3 L3 Y3
  clear O4 C4 L4 Y4
  refine anyR_val (i := 6) (m' := 127) (v := .bool true) F hQ rfl rfl (by kernel_rfl) (by kernel_rfl) (by kernel_rfl) (by kernel_rfl) (by kernel_rfl) (fun _ _ => by kernel_rfl) ?_
  refine anyR_val (i := 7) (m' := 255) (v := .func (.func 10) #[] #[]) F hQ rfl rfl (by kernel_rfl) (by kernel_rfl) (by kernel_rfl) (by kernel_rfl) (by kernel_rfl) (fun _ _ => by kernel_rfl) ?_
  refine anyR_call (i := 8) (m' := 511) rfl rfl (by kernel_rfl) (by kernel_rfl) (by kernel_rfl) (by kernel_rfl) (by kernel_rfl) ((vof_any ⟨#[49, 49, 48, 48]⟩ _ (by decide)).mono ?_)
  rintro e w30 ⟨l1, s1, A1, c1, E1, rfl, C1, O1, hb⟩
  refine ⟨_, rfl, hb, ?_⟩
  replace Oe := hide (RQ.below Oe.out hb)
  replace Op := hide (RQ.below Op.out hb)
  replace Om := hide (RQ.below Om.out hb)
  replace Ob := hide (RQ.below Ob.out hb)
  replace Oh := hide (RQ.below Oh.out hb)
  replace Ot := hide (RQ.below Ot.out hb)
  replace Be := hide (Box.kept Be.out hb)
  replace Bp := hide (Box.kept Bp.out hb)
  replace Bm := hide (Box.kept Bm.out hb)
  replace Bb := hide (Box.kept Bb.out hb)
  replace Bh := hide (Box.kept Bh.out hb)
  replace Bt := hide (Box.kept Bt.out hb)
  replace O1 := hide O1.out.rd
  replace hU := hU.trans (hb.mono hU.size)
  clear hb
  have G1 : Gd l1 := by have h := congrArg Vc.b E1.out; dsimp only at h; rw [h]; exact gd_of (by decide +kernel)
  have L1 := hide (show l1.length ≤ 4096 from Nat.le_trans G1.le (by decide))
  have Y1 := hide G1.by_
  clear G1
  refine anyR_call (i := 9) (m' := 1023) rfl rfl (by kernel_rfl) (by kernel_rfl) (by kernel_rfl) (by kernel_rfl) (by kernel_rfl) ((vof_any ⟨#[48, 49, 48, 49]⟩ _ (by decide)).mono ?_)
  rintro e w31 ⟨l2, s2, A2, c2, E2, rfl, C2, O2, hb⟩
  refine ⟨_, rfl, hb, ?_⟩
  replace Oe := hide (RQ.below Oe.out hb)
  replace Op := hide (RQ.below Op.out hb)
  replace Om := hide (RQ.below Om.out hb)
  replace Ob := hide (RQ.below Ob.out hb)
  replace Oh := hide (RQ.below Oh.out hb)
  replace Ot := hide (RQ.below Ot.out hb)
  replace O1 := hide (RQ.below O1.out hb)
  replace Be := hide (Box.kept Be.out hb)
  replace Bp := hide (Box.kept Bp.out hb)
  replace Bm := hide (Box.kept Bm.out hb)
  replace Bb := hide (Box.kept Bb.out hb)
  replace Bh := hide (Box.kept Bh.out hb)
  replace Bt := hide (Box.kept Bt.out hb)
  replace O2 := hide O2.out.rd
  replace hU := hU.trans (hb.mono hU.size)
  clear hb
  have G2 : Gd l2 := by have h := congrArg Vc.b E2.out; dsimp only at h; rw [h]; exact gd_of (by decide +kernel)
  have L2 := hide (show l2.length ≤ 4096 from Nat.le_trans G2.le (by decide))
  have Y2 := hide G2.by_
  clear G2
  refine anyR_call (i := 10) (m' := 2047) rfl rfl (by kernel_rfl) (by kernel_rfl) (by kernel_rfl) (by kernel_rfl) (by kernel_rfl) ((vAdd_any A1 A2 l1 l2 c1 c2 s1 s2 _ L1.out L2.out C1 C2 O1.out O2.out Y1.out Y2.out).mono ?_)
  rintro e w32 ⟨l3, s3, A3, c3, E3, rfl, C3, O3, hb⟩
  refine ⟨_, rfl, hb, ?_⟩
  replace Oe := hide (RQ.below Oe.out hb)
  replace Op := hide (RQ.below Op.out hb)
  replace Om := hide (RQ.below Om.out hb)
  replace Ob := hide (RQ.below Ob.out hb)
  replace Oh := hide (RQ.below Oh.out hb)
  replace Ot := hide (RQ.below Ot.out hb)
  replace O1 := hide (RQ.below O1.out hb)
  replace O2 := hide (RQ.below O2.out hb)
  replace Be := hide (Box.kept Be.out hb)
  replace Bp := hide (Box.kept Bp.out hb)
  replace Bm := hide (Box.kept Bm.out hb)
  replace Bb := hide (Box.kept Bb.out hb)
  replace Bh := hide (Box.kept Bh.out hb)
  replace Bt := hide (Box.kept Bt.out hb)
  replace O3 := hide O3.out.rd
  replace hU := hU.trans (hb.mono hU.size)
  clear hb
  have G3 : Gd l3 := by have h := congrArg Vc.b E3.out; dsimp only at h; rw [h]; exact (by rw [E1.out, E2.out]; exact gd_of (by decide +kernel))
  have L3 := hide (show l3.length ≤ 4096 from Nat.le_trans G3.le (by decide))
  have Y3 := hide G3.by_
  clear G3
  replace E3 := hide (show (⟨l3, s3⟩ : Vc) = vAdd ⟨ofB ⟨#[49, 49, 48, 48]⟩, false⟩ ⟨ofB ⟨#[48, 49, 48, 49]⟩, false⟩ from E3.out.trans (by rw [E1.out, E2.out]))
  clear O1 C1 L1 Y1
  clear O2 C2 L2 Y2
  refine anyR_call (i := 11) (m' := 4095) rfl rfl (by kernel_rfl) (by kernel_rfl) (by kernel_rfl) (by kernel_rfl) (by kernel_rfl) ((vof_any ⟨#[48, 48, 48, 49]⟩ _ (by decide)).mono ?_)
  rintro e w33 ⟨l4, s4, A4, c4, E4, rfl, C4, O4, hb⟩
  refine ⟨_, rfl, hb, ?_⟩
  replace Oe := hide (RQ.below Oe.out hb)
  replace Op := hide (RQ.below Op.out hb)
  replace Om := hide (RQ.below Om.out hb)
  replace Ob := hide (RQ.below Ob.out hb)
  replace Oh := hide (RQ.below Oh.out hb)
  replace Ot := hide (RQ.below Ot.out hb)
  replace O3 := hide (RQ.below O3.out hb)
  replace Be := hide (Box.kept Be.out hb)
  replace Bp := hide (Box.kept Bp.out hb)
  replace Bm := hide (Box.kept Bm.out hb)
  replace Bb := hide (Box.kept Bb.out hb)
  replace Bh := hide (Box.kept Bh.out hb)
  replace Bt := hide (Box.kept Bt.out hb)
  replace O4 := hide O4.out.rd
  replace hU := hU.trans (hb.mono hU.size)
  clear hb
  have G4 : Gd l4 := by have h := congrArg Vc.b E4.out; dsimp only at h; rw [h]; exact gd_of (by decide +kernel)
  have L4 := hide (show l4.length ≤ 4096 from Nat.le_trans G4.le (by decide))
  have Y4 := hide G4.by_
  clear G4
  refine anyR_call (i := 12) (m' := 8191) rfl rfl (by kernel_rfl) (by kernel_rfl) (by kernel_rfl) (by kernel_rfl) (by kernel_rfl) ((rsame_yes A3 A4 l3 l4 c3 c4 s3 s4 _ L3.out L4.out O3.out O4.out (by rw [E3.out, E4.out]; exact (sm_iff _ _).1 (by decide +kernel))).mono ?_)
  rintro e w34 ⟨rfl, hb⟩
  refine ⟨_, rfl, hb, ?_⟩
  replace Oe := hide (RQ.below Oe.out hb)
  replace Op := hide (RQ.below Op.out hb)
  replace Om := hide (RQ.below Om.out hb)
  replace Ob := hide (RQ.below Ob.out hb)
  replace Oh := hide (RQ.below Oh.out hb)
  replace Ot := hide (RQ.below Ot.out hb)
  replace O3 := hide (RQ.below O3.out hb)
  replace O4 := hide (RQ.below O4.out hb)
  replace Be := hide (Box.kept Be.out hb)
  replace Bp := hide (Box.kept Bp.out hb)
  replace Bm := hide (Box.kept Bm.out hb)
  replace Bb := hide (Box.kept Bb.out hb)
  replace Bh := hide (Box.kept Bh.out hb)
  replace Bt := hide (Box.kept Bt.out hb)
  replace hU := hU.trans (hb.mono hU.size)
  clear hb
  clear O3 C3 L3 Y3
  clear O4 C4 L4 Y4
  refine anyR_val (i := 13) (m' := 16383) (v := .bool true) F hQ rfl rfl (by kernel_rfl) (by kernel_rfl) (by kernel_rfl) (by kernel_rfl) (by kernel_rfl) (fun _ _ => by kernel_rfl) ?_
  refine anyR_val (i := 14) (m' := 32767) (v := .bool true) F hQ rfl rfl (by kernel_rfl) (by kernel_rfl) (by kernel_rfl) (by kernel_rfl) (by kernel_rfl) (fun _ _ => by kernel_rfl) ?_
  refine anyR_val (i := 15) (m' := 65535) (v := .func (.func 10) #[] #[]) F hQ rfl rfl (by kernel_rfl) (by kernel_rfl) (by kernel_rfl) (by kernel_rfl) (by kernel_rfl) (fun _ _ => by kernel_rfl) ?_
  refine anyR_call (i := 16) (m' := 131071) rfl rfl (by kernel_rfl) (by kernel_rfl) (by kernel_rfl) (by kernel_rfl) (by kernel_rfl) ((vof_any ⟨#[49, 120, 48, 48]⟩ _ (by decide)).mono ?_)
  rintro e w35 ⟨l1, s1, A1, c1, E1, rfl, C1, O1, hb⟩
  refine ⟨_, rfl, hb, ?_⟩
  replace Oe := hide (RQ.below Oe.out hb)
  replace Op := hide (RQ.below Op.out hb)
  replace Om := hide (RQ.below Om.out hb)
  replace Ob := hide (RQ.below Ob.out hb)
  replace Oh := hide (RQ.below Oh.out hb)
  replace Ot := hide (RQ.below Ot.out hb)
  replace Be := hide (Box.kept Be.out hb)
  replace Bp := hide (Box.kept Bp.out hb)
  replace Bm := hide (Box.kept Bm.out hb)
  replace Bb := hide (Box.kept Bb.out hb)
  replace Bh := hide (Box.kept Bh.out hb)
  replace Bt := hide (Box.kept Bt.out hb)
  replace O1 := hide O1.out.rd
  replace hU := hU.trans (hb.mono hU.size)
  clear hb
  have G1 : Gd l1 := by have h := congrArg Vc.b E1.out; dsimp only at h; rw [h]; exact gd_of (by decide +kernel)
  have L1 := hide (show l1.length ≤ 4096 from Nat.le_trans G1.le (by decide))
  have Y1 := hide G1.by_
  clear G1
  refine anyR_call (i := 17) (m' := 262143) rfl rfl (by kernel_rfl) (by kernel_rfl) (by kernel_rfl) (by kernel_rfl) (by kernel_rfl) ((vof_any ⟨#[48, 48, 48, 49]⟩ _ (by decide)).mono ?_)
  rintro e w36 ⟨l2, s2, A2, c2, E2, rfl, C2, O2, hb⟩
  refine ⟨_, rfl, hb, ?_⟩
  replace Oe := hide (RQ.below Oe.out hb)
  replace Op := hide (RQ.below Op.out hb)
  replace Om := hide (RQ.below Om.out hb)
  replace Ob := hide (RQ.below Ob.out hb)
  replace Oh := hide (RQ.below Oh.out hb)
  replace Ot := hide (RQ.below Ot.out hb)
  replace O1 := hide (RQ.below O1.out hb)
  replace Be := hide (Box.kept Be.out hb)
  replace Bp := hide (Box.kept Bp.out hb)
  replace Bm := hide (Box.kept Bm.out hb)
  replace Bb := hide (Box.kept Bb.out hb)
  replace Bh := hide (Box.kept Bh.out hb)
  replace Bt := hide (Box.kept Bt.out hb)
  replace O2 := hide O2.out.rd
  replace hU := hU.trans (hb.mono hU.size)
  clear hb
  have G2 : Gd l2 := by have h := congrArg Vc.b E2.out; dsimp only at h; rw [h]; exact gd_of (by decide +kernel)
  have L2 := hide (show l2.length ≤ 4096 from Nat.le_trans G2.le (by decide))
  have Y2 := hide G2.by_
  clear G2
  refine anyR_call (i := 18) (m' := 524287) rfl rfl (by kernel_rfl) (by kernel_rfl) (by kernel_rfl) (by kernel_rfl) (by kernel_rfl) ((vAdd_any A1 A2 l1 l2 c1 c2 s1 s2 _ L1.out L2.out C1 C2 O1.out O2.out Y1.out Y2.out).mono ?_)
  rintro e w37 ⟨l3, s3, A3, c3, E3, rfl, C3, O3, hb⟩
  refine ⟨_, rfl, hb, ?_⟩
  replace Oe := hide (RQ.below Oe.out hb)
  replace Op := hide (RQ.below Op.out hb)
  replace Om := hide (RQ.below Om.out hb)
  replace Ob := hide (RQ.below Ob.out hb)
  replace Oh := hide (RQ.below Oh.out hb)
  replace Ot := hide (RQ.below Ot.out hb)
  replace O1 := hide (RQ.below O1.out hb)
  replace O2 := hide (RQ.below O2.out hb)
  replace Be := hide (Box.kept Be.out hb)
  replace Bp := hide (Box.kept Bp.out hb)
  replace Bm := hide (Box.kept Bm.out hb)
  replace Bb := hide (Box.kept Bb.out hb)
  replace Bh := hide (Box.kept Bh.out hb)
  replace Bt := hide (Box.kept Bt.out hb)
  replace O3 := hide O3.out.rd
  replace hU := hU.trans (hb.mono hU.size)
  clear hb
  have G3 : Gd l3 := by have h := congrArg Vc.b E3.out; dsimp only at h; rw [h]; exact (by rw [E1.out, E2.out]; exact gd_of (by decide +kernel))
  have L3 := hide (show l3.length ≤ 4096 from Nat.le_trans G3.le (by decide))
  have Y3 := hide G3.by_
  clear G3
  replace E3 := hide (show (⟨l3, s3⟩ : Vc) = vAdd ⟨ofB ⟨#[49, 120, 48, 48]⟩, false⟩ ⟨ofB ⟨#[48, 48, 48, 49]⟩, false⟩ from E3.out.trans (by rw [E1.out, E2.out]))
  clear O1 C1 L1 Y1
  clear O2 C2 L2 Y2
  refine anyR_call (i := 19) (m' := 1048575) rfl rfl (by kernel_rfl) (by kernel_rfl) (by kernel_rfl) (by kernel_rfl) (by kernel_rfl) ((vof_any ⟨#[120, 120, 120, 120]⟩ _ (by decide)).mono ?_)
  rintro e w38 ⟨l4, s4, A4, c4, E4, rfl, C4, O4, hb⟩
  refine ⟨_, rfl, hb, ?_⟩
  replace Oe := hide (RQ.below Oe.out hb)
  replace Op := hide (RQ.below Op.out hb)
  replace Om := hide (RQ.below Om.out hb)
  replace Ob := hide (RQ.below Ob.out hb)
  replace Oh := hide (RQ.below Oh.out hb)
  replace Ot := hide (RQ.below Ot.out hb)
  replace O3 := hide (RQ.below O3.out hb)
  replace Be := hide (Box.kept Be.out hb)
  replace Bp := hide (Box.kept Bp.out hb)
  replace Bm := hide (Box.kept Bm.out hb)
  replace Bb := hide (Box.kept Bb.out hb)
  replace Bh := hide (Box.kept Bh.out hb)
  replace Bt := hide (Box.kept Bt.out hb)
  replace O4 := hide O4.out.rd
  replace hU := hU.trans (hb.mono hU.size)
  clear hb
  have G4 : Gd l4 := by have h := congrArg Vc.b E4.out; dsimp only at h; rw [h]; exact gd_of (by decide +kernel)
  have L4 := hide (show l4.length ≤ 4096 from Nat.le_trans G4.le (by decide))
  have Y4 := hide G4.by_
  clear G4
  refine anyR_call (i := 20) (m' := 2097151) rfl rfl (by kernel_rfl) (by kernel_rfl) (by kernel_rfl) (by kernel_rfl) (by kernel_rfl) ((rsame_yes A3 A4 l3 l4 c3 c4 s3 s4 _ L3.out L4.out O3.out O4.out (by rw [E3.out, E4.out]; exact (sm_iff _ _).1 (by decide +kernel))).mono ?_)
  rintro e w39 ⟨rfl, hb⟩
  refine ⟨_, rfl, hb, ?_⟩
  replace Oe := hide (RQ.below Oe.out hb)
  replace Op := hide (RQ.below Op.out hb)
  replace Om := hide (RQ.below Om.out hb)
  replace Ob := hide (RQ.below Ob.out hb)
  replace Oh := hide (RQ.below Oh.out hb)
  replace Ot := hide (RQ.below Ot.out hb)
  replace O3 := hide (RQ.below O3.out hb)
  replace O4 := hide (RQ.below O4.out hb)
  replace Be := hide (Box.kept Be.out hb)
  replace Bp := hide (Box.kept Bp.out hb)
  replace Bm := hide (Box.kept Bm.out hb)
  replace Bb := hide (Box.kept Bb.out hb)
  replace Bh := hide (Box.kept Bh.out hb)
  replace Bt := hide (Box.kept Bt.out hb)
  replace hU := hU.trans (hb.mono hU.size)
  clear hb
  clear O3 C3 L3 Y3
  clear O4 C4 L4 Y4
  refine anyR_val (i := 21) (m' := 4194303) (v := .bool true) F hQ rfl rfl (by kernel_rfl) (by kernel_rfl) (by kernel_rfl) (by kernel_rfl) (by kernel_rfl) (fun _ _ => by kernel_rfl) ?_
  refine anyR_val (i := 22) (m' := 8388607) (v := .bool true) F hQ rfl rfl (by kernel_rfl) (by kernel_rfl) (by kernel_rfl) (by kernel_rfl) (by kernel_rfl) (fun _ _ => by kernel_rfl) ?_
  refine anyR_val (i := 23) (m' := 16777215) (v := .func (.func 10) #[] #[]) F hQ rfl rfl (by kernel_rfl) (by kernel_rfl) (by kernel_rfl) (by kernel_rfl) (by kernel_rfl) (fun _ _ => by kernel_rfl) ?_
  refine anyR_call (i := 24) (m' := 33554431) rfl rfl (by kernel_rfl) (by kernel_rfl) (by kernel_rfl) (by kernel_rfl) (by kernel_rfl) ((vof_any ⟨#[49, 48, 120, 48]⟩ _ (by decide)).mono ?_)
  rintro e w40 ⟨l1, s1, A1, c1, E1, rfl, C1, O1, hb⟩
  refine ⟨_, rfl, hb, ?_⟩
  replace Oe := hide (RQ.below Oe.out hb)
  replace Op := hide (RQ.below Op.out hb)
  replace Om := hide (RQ.below Om.out hb)
  replace Ob := hide (RQ.below Ob.out hb)
  replace Oh := hide (RQ.below Oh.out hb)
  replace Ot := hide (RQ.below Ot.out hb)
  replace Be := hide (Box.kept Be.out hb)
  replace Bp := hide (Box.kept Bp.out hb)
  replace Bm := hide (Box.kept Bm.out hb)
  replace Bb := hide (Box.kept Bb.out hb)
  replace Bh := hide (Box.kept Bh.out hb)
  replace Bt := hide (Box.kept Bt.out hb)
  replace O1 := hide O1.out.rd
  replace hU := hU.trans (hb.mono hU.size)
  clear hb
  have G1 : Gd l1 := by have h := congrArg Vc.b E1.out; dsimp only at h; rw [h]; exact gd_of (by decide +kernel)
  have L1 := hide (show l1.length ≤ 4096 from Nat.le_trans G1.le (by decide))
  have Y1 := hide G1.by_
  clear G1
  refine anyR_call (i := 25) (m' := 67108863) rfl rfl (by kernel_rfl) (by kernel_rfl) (by kernel_rfl) (by kernel_rfl) (by kernel_rfl) ((vof_any ⟨#[48, 48, 48, 48]⟩ _ (by decide)).mono ?_)
  rintro e w41 ⟨l2, s2, A2, c2, E2, rfl, C2, O2, hb⟩
  refine ⟨_, rfl, hb, ?_⟩
  replace Oe := hide (RQ.below Oe.out hb)
  replace Op := hide (RQ.below Op.out hb)
  replace Om := hide (RQ.below Om.out hb)
  replace Ob := hide (RQ.below Ob.out hb)
  replace Oh := hide (RQ.below Oh.out hb)
  replace Ot := hide (RQ.below Ot.out hb)
  replace O1 := hide (RQ.below O1.out hb)
  replace Be := hide (Box.kept Be.out hb)
  replace Bp := hide (Box.kept Bp.out hb)
  replace Bm := hide (Box.kept Bm.out hb)
  replace Bb := hide (Box.kept Bb.out hb)
  replace Bh := hide (Box.kept Bh.out hb)
  replace Bt := hide (Box.kept Bt.out hb)
  replace O2 := hide O2.out.rd
  replace hU := hU.trans (hb.mono hU.size)
  clear hb
  have G2 : Gd l2 := by have h := congrArg Vc.b E2.out; dsimp only at h; rw [h]; exact gd_of (by decide +kernel)
  have L2 := hide (show l2.length ≤ 4096 from Nat.le_trans G2.le (by decide))
  have Y2 := hide G2.by_
  clear G2
  refine anyR_call (i := 26) (m' := 134217727) rfl rfl (by kernel_rfl) (by kernel_rfl) (by kernel_rfl) (by kernel_rfl) (by kernel_rfl) ((vEq_any A1 A2 l1 l2 c1 c2 s1 s2 _ L1.out L2.out C1 C2 O1.out O2.out Y1.out Y2.out (HT.out.kept hU)).mono ?_)
  rintro e w42 ⟨l3, s3, A3, c3, E3, rfl, C3, O3, hb⟩
  refine ⟨_, rfl, hb, ?_⟩
  replace Oe := hide (RQ.below Oe.out hb)
  replace Op := hide (RQ.below Op.out hb)
  replace Om := hide (RQ.below Om.out hb)
  replace Ob := hide (RQ.below Ob.out hb)
  replace Oh := hide (RQ.below Oh.out hb)
  replace Ot := hide (RQ.below Ot.out hb)
  replace O1 := hide (RQ.below O1.out hb)
  replace O2 := hide (RQ.below O2.out hb)
  replace Be := hide (Box.kept Be.out hb)
  replace Bp := hide (Box.kept Bp.out hb)
  replace Bm := hide (Box.kept Bm.out hb)
  replace Bb := hide (Box.kept Bb.out hb)
  replace Bh := hide (Box.kept Bh.out hb)
  replace Bt := hide (Box.kept Bt.out hb)
  replace O3 := hide O3.out.rd
  replace hU := hU.trans (hb.mono hU.size)
  clear hb
  have G3 : Gd l3 := by have h := congrArg Vc.b E3.out; dsimp only at h; rw [h]; exact (by rw [E1.out, E2.out]; exact gd_of (by decide +kernel))
  have L3 := hide (show l3.length ≤ 4096 from Nat.le_trans G3.le (by decide))
  have Y3 := hide G3.by_
  clear G3
  replace E3 := hide (show (⟨l3, s3⟩ : Vc) = vEq ⟨ofB ⟨#[49, 48, 120, 48]⟩, false⟩ ⟨ofB ⟨#[48, 48, 48, 48]⟩, false⟩ from E3.out.trans (by rw [E1.out, E2.out]))
  clear O1 C1 L1 Y1
  clear O2 C2 L2 Y2
  refine anyR_call (i := 27) (m' := 268435455) rfl rfl (by kernel_rfl) (by kernel_rfl) (by kernel_rfl) (by kernel_rfl) (by kernel_rfl) ((vof_any ⟨#[48]⟩ _ (by decide)).mono ?_)
  rintro e w43 ⟨l4, s4, A4, c4, E4, rfl, C4, O4, hb⟩
  refine ⟨_, rfl, hb, ?_⟩
  replace Oe := hide (RQ.below Oe.out hb)
  replace Op := hide (RQ.below Op.out hb)
  replace Om := hide (RQ.below Om.out hb)
  replace Ob := hide (RQ.below Ob.out hb)
  replace Oh := hide (RQ.below Oh.out hb)
  replace Ot := hide (RQ.below Ot.out hb)
  replace O3 := hide (RQ.below O3.out hb)
  replace Be := hide (Box.kept Be.out hb)
  replace Bp := hide (Box.kept Bp.out hb)
  replace Bm := hide (Box.kept Bm.out hb)
  replace Bb := hide (Box.kept Bb.out hb)
  replace Bh := hide (Box.kept Bh.out hb)
  replace Bt := hide (Box.kept Bt.out hb)
  replace O4 := hide O4.out.rd
  replace hU := hU.trans (hb.mono hU.size)
  clear hb
  have G4 : Gd l4 := by have h := congrArg Vc.b E4.out; dsimp only at h; rw [h]; exact gd_of (by decide +kernel)
  have L4 := hide (show l4.length ≤ 4096 from Nat.le_trans G4.le (by decide))
  have Y4 := hide G4.by_
  clear G4
  refine anyR_call (i := 28) (m' := 536870911) rfl rfl (by kernel_rfl) (by kernel_rfl) (by kernel_rfl) (by kernel_rfl) (by kernel_rfl) ((rsame_yes A3 A4 l3 l4 c3 c4 s3 s4 _ L3.out L4.out O3.out O4.out (by rw [E3.out, E4.out]; exact (sm_iff _ _).1 (by decide +kernel))).mono ?_)
  rintro e w44 ⟨rfl, hb⟩
  refine ⟨_, rfl, hb, ?_⟩
  replace Oe := hide (RQ.below Oe.out hb)
  replace Op := hide (RQ.below Op.out hb)
  replace Om := hide (RQ.below Om.out hb)
  replace Ob := hide (RQ.below Ob.out hb)
  replace Oh := hide (RQ.below Oh.out hb)
  replace Ot := hide (RQ.below Ot.out hb)
  replace O3 := hide (RQ.below O3.out hb)
  replace O4 := hide (RQ.below O4.out hb)
  replace Be := hide (Box.kept Be.out hb)
  replace Bp := hide (Box.kept Bp.out hb)
  replace Bm := hide (Box.kept Bm.out hb)
  replace Bb := hide (Box.kept Bb.out hb)
  replace Bh := hide (Box.kept Bh.out hb)
  replace Bt := hide (Box.kept Bt.out hb)
  replace hU := hU.trans (hb.mono hU.size)
  clear hb
  clear O3 C3 L3 Y3
  clear O4 C4 L4 Y4
  refine anyR_val (i := 29) (m' := 1073741823) (v := .bool true) F hQ rfl rfl (by kernel_rfl) (by kernel_rfl) (by kernel_rfl) (by kernel_rfl) (by kernel_rfl) (fun _ _ => by kernel_rfl) ?_
  refine anyR_val (i := 30) (m' := 2147483647) (v := .bool true) F hQ rfl rfl (by kernel_rfl) (by kernel_rfl) (by kernel_rfl) (by kernel_rfl) (by kernel_rfl) (fun _ _ => by kernel_rfl) ?_
  refine anyR_val (i := 31) (m' := 4294967295) (v := .func (.func 10) #[] #[]) F hQ rfl rfl (by kernel_rfl) (by kernel_rfl) (by kernel_rfl) (by kernel_rfl) (by kernel_rfl) (fun _ _ => by kernel_rfl) ?_
  refine anyR_call (i := 32) (m' := 8589934591) rfl rfl (by kernel_rfl) (by kernel_rfl) (by kernel_rfl) (by kernel_rfl) (by kernel_rfl) ((vof_any ⟨#[48, 48, 120, 48]⟩ _ (by decide)).mono ?_)
  rintro e w45 ⟨l1, s1, A1, c1, E1, rfl, C1, O1, hb⟩
  refine ⟨_, rfl, hb, ?_⟩
  replace Oe := hide (RQ.below Oe.out hb)
  replace Op := hide (RQ.below Op.out hb)
  replace Om := hide (RQ.below Om.out hb)
  replace Ob := hide (RQ.below Ob.out hb)
  replace Oh := hide (RQ.below Oh.out hb)
  replace Ot := hide (RQ.below Ot.out hb)
  replace Be := hide (Box.kept Be.out hb)
  replace Bp := hide (Box.kept Bp.out hb)
  replace Bm := hide (Box.kept Bm.out hb)
  replace Bb := hide (Box.kept Bb.out hb)
  replace Bh := hide (Box.kept Bh.out hb)
  replace Bt := hide (Box.kept Bt.out hb)
  replace O1 := hide O1.out.rd
  replace hU := hU.trans (hb.mono hU.size)
  clear hb
  have G1 : Gd l1 := by have h := congrArg Vc.b E1.out; dsimp only at h; rw [h]; exact gd_of (by decide +kernel)
  have L1 := hide (show l1.length ≤ 4096 from Nat.le_trans G1.le (by decide))
  have Y1 := hide G1.by_
  clear G1
  refine anyR_call (i := 33) (m' := 17179869183) rfl rfl (by kernel_rfl) (by kernel_rfl) (by kernel_rfl) (by kernel_rfl) (by kernel_rfl) ((vof_any ⟨#[48, 48, 48, 48]⟩ _ (by decide)).mono ?_)
  rintro e w46 ⟨l2, s2, A2, c2, E2, rfl, C2, O2, hb⟩
  refine ⟨_, rfl, hb, ?_⟩
  replace Oe := hide (RQ.below Oe.out hb)
  replace Op := hide (RQ.below Op.out hb)
  replace Om := hide (RQ.below Om.out hb)
  replace Ob := hide (RQ.below Ob.out hb)
  replace Oh := hide (RQ.below Oh.out hb)
  replace Ot := hide (RQ.below Ot.out hb)
  replace O1 := hide (RQ.below O1.out hb)
  replace Be := hide (Box.kept Be.out hb)
  replace Bp := hide (Box.kept Bp.out hb)
  replace Bm := hide (Box.kept Bm.out hb)
  replace Bb := hide (Box.kept Bb.out hb)
  replace Bh := hide (Box.kept Bh.out hb)
  replace Bt := hide (Box.kept Bt.out hb)
  replace O2 := hide O2.out.rd
  replace hU := hU.trans (hb.mono hU.size)
  clear hb
  have G2 : Gd l2 := by have h := congrArg Vc.b E2.out; dsimp only at h; rw [h]; exact gd_of (by decide +kernel)
  have L2 := hide (show l2.length ≤ 4096 from Nat.le_trans G2.le (by decide))
  have Y2 := hide G2.by_
  clear G2
  refine anyR_call (i := 34) (m' := 34359738367) rfl rfl (by kernel_rfl) (by kernel_rfl) (by kernel_rfl) (by kernel_rfl) (by kernel_rfl) ((vEq_any A1 A2 l1 l2 c1 c2 s1 s2 _ L1.out L2.out C1 C2 O1.out O2.out Y1.out Y2.out (HT.out.kept hU)).mono ?_)
  rintro e w47 ⟨l3, s3, A3, c3, E3, rfl, C3, O3, hb⟩
  refine ⟨_, rfl, hb, ?_⟩
  replace Oe := hide (RQ.below Oe.out hb)
  replace Op := hide (RQ.below Op.out hb)
  replace Om := hide (RQ.below Om.out hb)
  replace Ob := hide (RQ.below Ob.out hb)
  replace Oh := hide (RQ.below Oh.out hb)
  replace Ot := hide (RQ.below Ot.out hb)
  replace O1 := hide (RQ.below O1.out hb)
  replace O2 := hide (RQ.below O2.out hb)
  replace Be := hide (Box.kept Be.out hb)
  replace Bp := hide (Box.kept Bp.out hb)
  replace Bm := hide (Box.kept Bm.out hb)
  replace Bb := hide (Box.kept Bb.out hb)
  replace Bh := hide (Box.kept Bh.out hb)
  replace Bt := hide (Box.kept Bt.out hb)
  replace O3 := hide O3.out.rd
  replace hU := hU.trans (hb.mono hU.size)
  clear hb
  have G3 : Gd l3 := by have h := congrArg Vc.b E3.out; dsimp only at h; rw [h]; exact (by rw [E1.out, E2.out]; exact gd_of (by decide +kernel))
  have L3 := hide (show l3.length ≤ 4096 from Nat.le_trans G3.le (by decide))
  have Y3 := hide G3.by_
  clear G3
  replace E3 := hide (show (⟨l3, s3⟩ : Vc) = vEq ⟨ofB ⟨#[48, 48, 120, 48]⟩, false⟩ ⟨ofB ⟨#[48, 48, 48, 48]⟩, false⟩ from E3.out.trans (by rw [E1.out, E2.out]))
  clear O1 C1 L1 Y1
  clear O2 C2 L2 Y2
  refine anyR_call (i := 35) (m' := 68719476735) rfl rfl (by kernel_rfl) (by kernel_rfl) (by kernel_rfl) (by kernel_rfl) (by kernel_rfl) ((vof_any ⟨#[120]⟩ _ (by decide)).mono ?_)
  rintro e w48 ⟨l4, s4, A4, c4, E4, rfl, C4, O4, hb⟩
  refine ⟨_, rfl, hb, ?_⟩
  replace Oe := hide (RQ.below Oe.out hb)
  replace Op := hide (RQ.below Op.out hb)
  replace Om := hide (RQ.below Om.out hb)
  replace Ob := hide (RQ.below Ob.out hb)
  replace Oh := hide (RQ.below Oh.out hb)
  replace Ot := hide (RQ.below Ot.out hb)
  replace O3 := hide (RQ.below O3.out hb)
  replace Be := hide (Box.kept Be.out hb)
  replace Bp := hide (Box.kept Bp.out hb)
  replace Bm := hide (Box.kept Bm.out hb)
  replace Bb := hide (Box.kept Bb.out hb)
  replace Bh := hide (Box.kept Bh.out hb)
  replace Bt := hide (Box.kept Bt.out hb)
  replace O4 := hide O4.out.rd
  replace hU := hU.trans (hb.mono hU.size)
  clear hb
  have G4 : Gd l4 := by have h := congrArg Vc.b E4.out; dsimp only at h; rw [h]; exact gd_of (by decide +kernel)
  have L4 := hide (show l4.length ≤ 4096 from Nat.le_trans G4.le (by decide))
  have Y4 := hide G4.by_
  clear G4
  refine anyR_call (i := 36) (m' := 137438953471) rfl rfl (by kernel_rfl) (by kernel_rfl) (by kernel_rfl) (by kernel_rfl) (by kernel_rfl) ((rsame_yes A3 A4 l3 l4 c3 c4 s3 s4 _ L3.out L4.out O3.out O4.out (by rw [E3.out, E4.out]; exact (sm_iff _ _).1 (by decide +kernel))).mono ?_)
  rintro e w49 ⟨rfl, hb⟩
  refine ⟨_, rfl, hb, ?_⟩
  replace Oe := hide (RQ.below Oe.out hb)
  replace Op := hide (RQ.below Op.out hb)
  replace Om := hide (RQ.below Om.out hb)
  replace Ob := hide (RQ.below Ob.out hb)
  replace Oh := hide (RQ.below Oh.out hb)
  replace Ot := hide (RQ.below Ot.out hb)
  replace O3 := hide (RQ.below O3.out hb)
  replace O4 := hide (RQ.below O4.out hb)
  replace Be := hide (Box.kept Be.out hb)
  replace Bp := hide (Box.kept Bp.out hb)
  replace Bm := hide (Box.kept Bm.out hb)
  replace Bb := hide (Box.kept Bb.out hb)
  replace Bh := hide (Box.kept Bh.out hb)
  replace Bt := hide (Box.kept Bt.out hb)
  replace hU := hU.trans (hb.mono hU.size)
  clear hb
  clear O3 C3 L3 Y3
  clear O4 C4 L4 Y4
  refine anyR_val (i := 37) (m' := 274877906943) (v := .bool true) F hQ rfl rfl (by kernel_rfl) (by kernel_rfl) (by kernel_rfl) (by kernel_rfl) (by kernel_rfl) (fun _ _ => by kernel_rfl) ?_
  refine anyR_val (i := 38) (m' := 549755813887) (v := .bool true) F hQ rfl rfl (by kernel_rfl) (by kernel_rfl) (by kernel_rfl) (by kernel_rfl) (by kernel_rfl) (fun _ _ => by kernel_rfl) ?_
  refine anyR_val (i := 39) (m' := 1099511627775) (v := .func (.func 10) #[] #[]) F hQ rfl rfl (by kernel_rfl) (by kernel_rfl) (by kernel_rfl) (by kernel_rfl) (by kernel_rfl) (fun _ _ => by kernel_rfl) ?_
  refine anyR_call (i := 40) (m' := 2199023255551) rfl rfl (by kernel_rfl) (by kernel_rfl) (by kernel_rfl) (by kernel_rfl) (by kernel_rfl) ((vof_any ⟨#[49, 120, 48, 48]⟩ _ (by decide)).mono ?_)
  rintro e w50 ⟨l1, s1, A1, c1, E1, rfl, C1, O1, hb⟩
  refine ⟨_, rfl, hb, ?_⟩
  replace Oe := hide (RQ.below Oe.out hb)
  replace Op := hide (RQ.below Op.out hb)
  replace Om := hide (RQ.below Om.out hb)
  replace Ob := hide (RQ.below Ob.out hb)
  replace Oh := hide (RQ.below Oh.out hb)
  replace Ot := hide (RQ.below Ot.out hb)
  replace Be := hide (Box.kept Be.out hb)
  replace Bp := hide (Box.kept Bp.out hb)
  replace Bm := hide (Box.kept Bm.out hb)
  replace Bb := hide (Box.kept Bb.out hb)
  replace Bh := hide (Box.kept Bh.out hb)
  replace Bt := hide (Box.kept Bt.out hb)
  replace O1 := hide O1.out.rd
  replace hU := hU.trans (hb.mono hU.size)
  clear hb
  have G1 : Gd l1 := by have h := congrArg Vc.b E1.out; dsimp only at h; rw [h]; exact gd_of (by decide +kernel)
  have L1 := hide (show l1.length ≤ 4096 from Nat.le_trans G1.le (by decide))
  have Y1 := hide G1.by_
  clear G1
  refine anyR_call (i := 41) (m' := 4398046511103) rfl rfl (by kernel_rfl) (by kernel_rfl) (by kernel_rfl) (by kernel_rfl) (by kernel_rfl) ((vof_any ⟨#[49, 120, 48, 48]⟩ _ (by decide)).mono ?_)
  rintro e w51 ⟨l2, s2, A2, c2, E2, rfl, C2, O2, hb⟩
  refine ⟨_, rfl, hb, ?_⟩
  replace Oe := hide (RQ.below Oe.out hb)
  replace Op := hide (RQ.below Op.out hb)
  replace Om := hide (RQ.below Om.out hb)
  replace Ob := hide (RQ.below Ob.out hb)
  replace Oh := hide (RQ.below Oh.out hb)
  replace Ot := hide (RQ.below Ot.out hb)
  replace O1 := hide (RQ.below O1.out hb)
  replace Be := hide (Box.kept Be.out hb)
  replace Bp := hide (Box.kept Bp.out hb)
  replace Bm := hide (Box.kept Bm.out hb)
  replace Bb := hide (Box.kept Bb.out hb)
  replace Bh := hide (Box.kept Bh.out hb)
  replace Bt := hide (Box.kept Bt.out hb)
  replace O2 := hide O2.out.rd
  replace hU := hU.trans (hb.mono hU.size)
  clear hb
  have G2 : Gd l2 := by have h := congrArg Vc.b E2.out; dsimp only at h; rw [h]; exact gd_of (by decide +kernel)
  have L2 := hide (show l2.length ≤ 4096 from Nat.le_trans G2.le (by decide))
  have Y2 := hide G2.by_
  clear G2
  refine anyR_call (i := 42) (m' := 8796093022207) rfl rfl (by kernel_rfl) (by kernel_rfl) (by kernel_rfl) (by kernel_rfl) (by kernel_rfl) ((vCaseEq_any A1 A2 l1 l2 c1 c2 s1 s2 _ L1.out L2.out C1 C2 O1.out O2.out Y1.out Y2.out).mono ?_)
  rintro e w52 ⟨l3, s3, A3, c3, E3, rfl, C3, O3, hb⟩
  refine ⟨_, rfl, hb, ?_⟩
  replace Oe := hide (RQ.below Oe.out hb)
  replace Op := hide (RQ.below Op.out hb)
  replace Om := hide (RQ.below Om.out hb)
  replace Ob := hide (RQ.below Ob.out hb)
  replace Oh := hide (RQ.below Oh.out hb)
  replace Ot := hide (RQ.below Ot.out hb)
  replace O1 := hide (RQ.below O1.out hb)
  replace O2 := hide (RQ.below O2.out hb)
  replace Be := hide (Box.kept Be.out hb)
  replace Bp := hide (Box.kept Bp.out hb)
  replace Bm := hide (Box.kept Bm.out hb)
  replace Bb := hide (Box.kept Bb.out hb)
  replace Bh := hide (Box.kept Bh.out hb)
  replace Bt := hide (Box.kept Bt.out hb)
  replace O3 := hide O3.out.rd
  replace hU := hU.trans (hb.mono hU.size)
  clear hb
  have G3 : Gd l3 := by have h := congrArg Vc.b E3.out; dsimp only at h; rw [h]; exact (by rw [E1.out, E2.out]; exact gd_of (by decide +kernel))
  have L3 := hide (show l3.length ≤ 4096 from Nat.le_trans G3.le (by decide))
  have Y3 := hide G3.by_
  clear G3
  replace E3 := hide (show (⟨l3, s3⟩ : Vc) = vCase ⟨ofB ⟨#[49, 120, 48, 48]⟩, false⟩ ⟨ofB ⟨#[49, 120, 48, 48]⟩, false⟩ from E3.out.trans (by rw [E1.out, E2.out]))
  clear O1 C1 L1 Y1
  clear O2 C2 L2 Y2
  refine anyR_call (i := 43) (m' := 17592186044415) rfl rfl (by kernel_rfl) (by kernel_rfl) (by kernel_rfl) (by kernel_rfl) (by kernel_rfl) ((vof_any ⟨#[49]⟩ _ (by decide)).mono ?_)
  rintro e w53 ⟨l4, s4, A4, c4, E4, rfl, C4, O4, hb⟩
  refine ⟨_, rfl, hb, ?_⟩
  replace Oe := hide (RQ.below Oe.out hb)
  replace Op := hide (RQ.below Op.out hb)
  replace Om := hide (RQ.below Om.out hb)
  replace Ob := hide (RQ.below Ob.out hb)
  replace Oh := hide (RQ.below Oh.out hb)
  replace Ot := hide (RQ.below Ot.out hb)
  replace O3 := hide (RQ.below O3.out hb)
  replace Be := hide (Box.kept Be.out hb)
  replace Bp := hide (Box.kept Bp.out hb)
  replace Bm := hide (Box.kept Bm.out hb)
  replace Bb := hide (Box.kept Bb.out hb)
  replace Bh := hide (Box.kept Bh.out hb)
  replace Bt := hide (Box.kept Bt.out hb)
  replace O4 := hide O4.out.rd
  replace hU := hU.trans (hb.mono hU.size)
  clear hb
  have G4 : Gd l4 := by have h := congrArg Vc.b E4.out; dsimp only at h; rw [h]; exact gd_of (by decide +kernel)
  have L4 := hide (show l4.length ≤ 4096 from Nat.le_trans G4.le (by decide))
  have Y4 := hide G4.by_
  clear G4
  refine anyR_call (i := 44) (m' := 35184372088831) rfl rfl (by kernel_rfl) (by kernel_rfl) (by kernel_rfl) (by kernel_rfl) (by kernel_rfl) ((rsame_yes A3 A4 l3 l4 c3 c4 s3 s4 _ L3.out L4.out O3.out O4.out (by rw [E3.out, E4.out]; exact (sm_iff _ _).1 (by decide +kernel))).mono ?_)
  rintro e w54 ⟨rfl, hb⟩
  refine ⟨_, rfl, hb, ?_⟩
  replace Oe := hide (RQ.below Oe.out hb)
  replace Op := hide (RQ.below Op.out hb)
  replace Om := hide (RQ.below Om.out hb)
  replace Ob := hide (RQ.below Ob.out hb)
  replace Oh := hide (RQ.below Oh.out hb)
  replace Ot := hide (RQ.below Ot.out hb)
  replace O3 := hide (RQ.below O3.out hb)
  replace O4 := hide (RQ.below O4.out hb)
  replace Be := hide (Box.kept Be.out hb)
  replace Bp := hide (Box.kept Bp.out hb)
  replace Bm := hide (Box.kept Bm.out hb)
  replace Bb := hide (Box.kept Bb.out hb)
  replace Bh := hide (Box.kept Bh.out hb)
  replace Bt := hide (Box.kept Bt.out hb)
  replace hU := hU.trans (hb.mono hU.size)
  clear hb
  clear O3 C3 L3 Y3
  clear O4 C4 L4 Y4
  refine anyR_val (i := 45) (m' := 70368744177663) (v := .bool true) F hQ rfl rfl (by kernel_rfl) (by kernel_rfl) (by kernel_rfl) (by kernel_rfl) (by kernel_rfl) (fun _ _ => by kernel_rfl) ?_
  refine anyR_val (i := 46) (m' := 140737488355327) (v := .bool true) F hQ rfl rfl (by kernel_rfl) (by kernel_rfl) (by kernel_rfl) (by kernel_rfl) (by kernel_rfl) (fun _ _ => by kernel_rfl) ?_
  refine anyR_val (i := 47) (m' := 281474976710655) (v := .func (.func 10) #[] #[]) F hQ rfl rfl (by kernel_rfl) (by kernel_rfl) (by kernel_rfl) (by kernel_rfl) (by kernel_rfl) (fun _ _ => by kernel_rfl) ?_
  refine anyR_call (i := 48) (m' := 562949953421311) rfl rfl (by kernel_rfl) (by kernel_rfl) (by kernel_rfl) (by kernel_rfl) (by kernel_rfl) ((vint4_any (-3) true _ (by decide) (by decide)).mono ?_)
  rintro e w55 ⟨l1, s1, A1, c1, E1, rfl, C1, O1, hb⟩
  refine ⟨_, rfl, hb, ?_⟩
  replace Oe := hide (RQ.below Oe.out hb)
  replace Op := hide (RQ.below Op.out hb)
  replace Om := hide (RQ.below Om.out hb)
  replace Ob := hide (RQ.below Ob.out hb)
  replace Oh := hide (RQ.below Oh.out hb)
  replace Ot := hide (RQ.below Ot.out hb)
  replace Be := hide (Box.kept Be.out hb)
  replace Bp := hide (Box.kept Bp.out hb)
  replace Bm := hide (Box.kept Bm.out hb)
  replace Bb := hide (Box.kept Bb.out hb)
  replace Bh := hide (Box.kept Bh.out hb)
  replace Bt := hide (Box.kept Bt.out hb)
  replace O1 := hide O1.out.rd
  replace hU := hU.trans (hb.mono hU.size)
  clear hb
  have G1 : Gd l1 := by have h := congrArg Vc.b E1.out; dsimp only at h; rw [h]; exact gd_of (by decide +kernel)
  have L1 := hide (show l1.length ≤ 4096 from Nat.le_trans G1.le (by decide))
  have Y1 := hide G1.by_
  clear G1
  refine anyR_call (i := 49) (m' := 1125899906842623) rfl rfl (by kernel_rfl) (by kernel_rfl) (by kernel_rfl) (by kernel_rfl) (by kernel_rfl) ((vint4_any 2 true _ (by decide) (by decide)).mono ?_)
  rintro e w56 ⟨l2, s2, A2, c2, E2, rfl, C2, O2, hb⟩
  refine ⟨_, rfl, hb, ?_⟩
  replace Oe := hide (RQ.below Oe.out hb)
  replace Op := hide (RQ.below Op.out hb)
  replace Om := hide (RQ.below Om.out hb)
  replace Ob := hide (RQ.below Ob.out hb)
  replace Oh := hide (RQ.below Oh.out hb)
  replace Ot := hide (RQ.below Ot.out hb)
  replace O1 := hide (RQ.below O1.out hb)
  replace Be := hide (Box.kept Be.out hb)
  replace Bp := hide (Box.kept Bp.out hb)
  replace Bm := hide (Box.kept Bm.out hb)
  replace Bb := hide (Box.kept Bb.out hb)
  replace Bh := hide (Box.kept Bh.out hb)
  replace Bt := hide (Box.kept Bt.out hb)
  replace O2 := hide O2.out.rd
  replace hU := hU.trans (hb.mono hU.size)
  clear hb
  have G2 : Gd l2 := by have h := congrArg Vc.b E2.out; dsimp only at h; rw [h]; exact gd_of (by decide +kernel)
  have L2 := hide (show l2.length ≤ 4096 from Nat.le_trans G2.le (by decide))
  have Y2 := hide G2.by_
  clear G2
  refine anyR_call (i := 50) (m' := 2251799813685247) rfl rfl (by kernel_rfl) (by kernel_rfl) (by kernel_rfl) (by kernel_rfl) (by kernel_rfl) ((vDiv_any A1 A2 l1 l2 c1 c2 s1 s2 _ L1.out L2.out C1 C2 O1.out O2.out Y1.out Y2.out).mono ?_)
  rintro e w57 ⟨l3, s3, A3, c3, E3, rfl, C3, O3, hb⟩
  refine ⟨_, rfl, hb, ?_⟩
  replace Oe := hide (RQ.below Oe.out hb)
  replace Op := hide (RQ.below Op.out hb)
  replace Om := hide (RQ.below Om.out hb)
  replace Ob := hide (RQ.below Ob.out hb)
  replace Oh := hide (RQ.below Oh.out hb)
  replace Ot := hide (RQ.below Ot.out hb)
  replace O1 := hide (RQ.below O1.out hb)
  replace O2 := hide (RQ.below O2.out hb)
  replace Be := hide (Box.kept Be.out hb)
  replace Bp := hide (Box.kept Bp.out hb)
  replace Bm := hide (Box.kept Bm.out hb)
  replace Bb := hide (Box.kept Bb.out hb)
  replace Bh := hide (Box.kept Bh.out hb)
  replace Bt := hide (Box.kept Bt.out hb)
  replace O3 := hide O3.out.rd
  replace hU := hU.trans (hb.mono hU.size)
  clear hb
  have G3 : Gd l3 := by have h := congrArg Vc.b E3.out; dsimp only at h; rw [h]; exact (by rw [E1.out, E2.out]; exact gd_of (by decide +kernel))
  have L3 := hide (show l3.length ≤ 4096 from Nat.le_trans G3.le (by decide))
  have Y3 := hide G3.by_
  clear G3
  replace E3 := hide (show (⟨l3, s3⟩ : Vc) = vDiv ⟨fb (vz 4 (-3)), true⟩ ⟨fb (vz 4 2), true⟩ from E3.out.trans (by rw [E1.out, E2.out]))
  clear O1 C1 L1 Y1
  clear O2 C2 L2 Y2
  refine anyR_call (i := 51) (m' := 4503599627370495) rfl rfl (by kernel_rfl) (by kernel_rfl) (by kernel_rfl) (by kernel_rfl) (by kernel_rfl) ((vint4_any (-1) true _ (by decide) (by decide)).mono ?_)
  rintro e w58 ⟨l4, s4, A4, c4, E4, rfl, C4, O4, hb⟩
  refine ⟨_, rfl, hb, ?_⟩
  replace Oe := hide (RQ.below Oe.out hb)
  replace Op := hide (RQ.below Op.out hb)
  replace Om := hide (RQ.below Om.out hb)
  replace Ob := hide (RQ.below Ob.out hb)
  replace Oh := hide (RQ.below Oh.out hb)
  replace Ot := hide (RQ.below Ot.out hb)
  replace O3 := hide (RQ.below O3.out hb)
  replace Be := hide (Box.kept Be.out hb)
  replace Bp := hide (Box.kept Bp.out hb)
  replace Bm := hide (Box.kept Bm.out hb)
  replace Bb := hide (Box.kept Bb.out hb)
  replace Bh := hide (Box.kept Bh.out hb)
  replace Bt := hide (Box.kept Bt.out hb)
  replace O4 := hide O4.out.rd
  replace hU := hU.trans (hb.mono hU.size)
  clear hb
  have G4 : Gd l4 := by have h := congrArg Vc.b E4.out; dsimp only at h; rw [h]; exact gd_of (by decide +kernel)
  have L4 := hide (show l4.length ≤ 4096 from Nat.le_trans G4.le (by decide))
  have Y4 := hide G4.by_
  clear G4
  refine anyR_call (i := 52) (m' := 9007199254740991) rfl rfl (by kernel_rfl) (by kernel_rfl) (by kernel_rfl) (by kernel_rfl) (by kernel_rfl) ((rsame_yes A3 A4 l3 l4 c3 c4 s3 s4 _ L3.out L4.out O3.out O4.out (by rw [E3.out, E4.out]; exact (sm_iff _ _).1 (by decide +kernel))).mono ?_)
  rintro e w59 ⟨rfl, hb⟩
  refine ⟨_, rfl, hb, ?_⟩
  replace Oe := hide (RQ.below Oe.out hb)
  replace Op := hide (RQ.below Op.out hb)
  replace Om := hide (RQ.below Om.out hb)
  replace Ob := hide (RQ.below Ob.out hb)
  replace Oh := hide (RQ.below Oh.out hb)
  replace Ot := hide (RQ.below Ot.out hb)
  replace O3 := hide (RQ.below O3.out hb)
  replace O4 := hide (RQ.below O4.out hb)
  replace Be := hide (Box.kept Be.out hb)
  replace Bp := hide (Box.kept Bp.out hb)
  replace Bm := hide (Box.kept Bm.out hb)
  replace Bb := hide (Box.kept Bb.out hb)
  replace Bh := hide (Box.kept Bh.out hb)
  replace Bt := hide (Box.kept Bt.out hb)
  replace hU := hU.trans (hb.mono hU.size)
  clear hb
  clear O3 C3 L3 Y3
  clear O4 C4 L4 Y4
  refine anyR_val (i := 53) (m' := 18014398509481983) (v := .bool true) F hQ rfl rfl (by kernel_rfl) (by kernel_rfl) (by kernel_rfl) (by kernel_rfl) (by kernel_rfl) (fun _ _ => by kernel_rfl) ?_
  refine anyR_val (i := 54) (m' := 36028797018963967) (v := .bool true) F hQ rfl rfl (by kernel_rfl) (by kernel_rfl) (by kernel_rfl) (by kernel_rfl) (by kernel_rfl) (fun _ _ => by kernel_rfl) ?_
  refine anyR_val (i := 55) (m' := 72057594037927935) (v := .func (.func 10) #[] #[]) F hQ rfl rfl (by kernel_rfl) (by kernel_rfl) (by kernel_rfl) (by kernel_rfl) (by kernel_rfl) (fun _ _ => by kernel_rfl) ?_
  refine anyR_call (i := 56) (m' := 144115188075855871) rfl rfl (by kernel_rfl) (by kernel_rfl) (by kernel_rfl) (by kernel_rfl) (by kernel_rfl) ((vsof_any ⟨#[49, 48, 48, 48]⟩ _ (by decide)).mono ?_)
  rintro e w60 ⟨l1, s1, A1, c1, E1, rfl, C1, O1, hb⟩
  refine ⟨_, rfl, hb, ?_⟩
  replace Oe := hide (RQ.below Oe.out hb)
  replace Op := hide (RQ.below Op.out hb)
  replace Om := hide (RQ.below Om.out hb)
  replace Ob := hide (RQ.below Ob.out hb)
  replace Oh := hide (RQ.below Oh.out hb)
  replace Ot := hide (RQ.below Ot.out hb)
  replace Be := hide (Box.kept Be.out hb)
  replace Bp := hide (Box.kept Bp.out hb)
  replace Bm := hide (Box.kept Bm.out hb)
  replace Bb := hide (Box.kept Bb.out hb)
  replace Bh := hide (Box.kept Bh.out hb)
  replace Bt := hide (Box.kept Bt.out hb)
  replace O1 := hide O1.out.rd
  replace hU := hU.trans (hb.mono hU.size)
  clear hb
  have G1 : Gd l1 := by have h := congrArg Vc.b E1.out; dsimp only at h; rw [h]; exact gd_of (by decide +kernel)
  have L1 := hide (show l1.length ≤ 4096 from Nat.le_trans G1.le (by decide))
  have Y1 := hide G1.by_
  clear G1
  refine anyR_call (i := 57) (m' := 288230376151711743) rfl rfl (by kernel_rfl) (by kernel_rfl) (by kernel_rfl) (by kernel_rfl) (by kernel_rfl) ((vof_any ⟨#[49]⟩ _ (by decide)).mono ?_)
  rintro e w61 ⟨l2, s2, A2, c2, E2, rfl, C2, O2, hb⟩
  refine ⟨_, rfl, hb, ?_⟩
  replace Oe := hide (RQ.below Oe.out hb)
  replace Op := hide (RQ.below Op.out hb)
  replace Om := hide (RQ.below Om.out hb)
  replace Ob := hide (RQ.below Ob.out hb)
  replace Oh := hide (RQ.below Oh.out hb)
  replace Ot := hide (RQ.below Ot.out hb)
  replace O1 := hide (RQ.below O1.out hb)
  replace Be := hide (Box.kept Be.out hb)
  replace Bp := hide (Box.kept Bp.out hb)
  replace Bm := hide (Box.kept Bm.out hb)
  replace Bb := hide (Box.kept Bb.out hb)
  replace Bh := hide (Box.kept Bh.out hb)
  replace Bt := hide (Box.kept Bt.out hb)
  replace O2 := hide O2.out.rd
  replace hU := hU.trans (hb.mono hU.size)
  clear hb
  have G2 : Gd l2 := by have h := congrArg Vc.b E2.out; dsimp only at h; rw [h]; exact gd_of (by decide +kernel)
  have L2 := hide (show l2.length ≤ 4096 from Nat.le_trans G2.le (by decide))
  have Y2 := hide G2.by_
  clear G2
  refine anyR_call (i := 58) (m' := 576460752303423487) rfl rfl (by kernel_rfl) (by kernel_rfl) (by kernel_rfl) (by kernel_rfl) (by kernel_rfl) ((vAShr_any A1 A2 l1 l2 c1 c2 s1 s2 _ L1.out L2.out C1 C2 O1.out O2.out Y1.out Y2.out).mono ?_)
  rintro e w62 ⟨l3, s3, A3, c3, E3, rfl, C3, O3, hb⟩
  refine ⟨_, rfl, hb, ?_⟩
  replace Oe := hide (RQ.below Oe.out hb)
  replace Op := hide (RQ.below Op.out hb)
  replace Om := hide (RQ.below Om.out hb)
  replace Ob := hide (RQ.below Ob.out hb)
  replace Oh := hide (RQ.below Oh.out hb)
  replace Ot := hide (RQ.below Ot.out hb)
  replace O1 := hide (RQ.below O1.out hb)
  replace O2 := hide (RQ.below O2.out hb)
  replace Be := hide (Box.kept Be.out hb)
  replace Bp := hide (Box.kept Bp.out hb)
  replace Bm := hide (Box.kept Bm.out hb)
  replace Bb := hide (Box.kept Bb.out hb)
  replace Bh := hide (Box.kept Bh.out hb)
  replace Bt := hide (Box.kept Bt.out hb)
  replace O3 := hide O3.out.rd
  replace hU := hU.trans (hb.mono hU.size)
  clear hb
  have G3 : Gd l3 := by have h := congrArg Vc.b E3.out; dsimp only at h; rw [h]; exact (by rw [E1.out, E2.out]; exact gd_of (by decide +kernel))
  have L3 := hide (show l3.length ≤ 4096 from Nat.le_trans G3.le (by decide))
  have Y3 := hide G3.by_
  clear G3
  replace E3 := hide (show (⟨l3, s3⟩ : Vc) = shf mAShr ⟨ofB ⟨#[49, 48, 48, 48]⟩, true⟩ ⟨ofB ⟨#[49]⟩, false⟩ from E3.out.trans (by rw [E1.out, E2.out]))
  clear O1 C1 L1 Y1
  clear O2 C2 L2 Y2
  refine anyR_call (i := 59) (m' := 1152921504606846975) rfl rfl (by kernel_rfl) (by kernel_rfl) (by kernel_rfl) (by kernel_rfl) (by kernel_rfl) ((vsof_any ⟨#[49, 49, 48, 48]⟩ _ (by decide)).mono ?_)
  rintro e w63 ⟨l4, s4, A4, c4, E4, rfl, C4, O4, hb⟩
  refine ⟨_, rfl, hb, ?_⟩
  replace Oe := hide (RQ.below Oe.out hb)
  replace Op := hide (RQ.below Op.out hb)
  replace Om := hide (RQ.below Om.out hb)
  replace Ob := hide (RQ.below Ob.out hb)
  replace Oh := hide (RQ.below Oh.out hb)
  replace Ot := hide (RQ.below Ot.out hb)
  replace O3 := hide (RQ.below O3.out hb)
  replace Be := hide (Box.kept Be.out hb)
  replace Bp := hide (Box.kept Bp.out hb)
  replace Bm := hide (Box.kept Bm.out hb)
  replace Bb := hide (Box.kept Bb.out hb)
  replace Bh := hide (Box.kept Bh.out hb)
  replace Bt := hide (Box.kept Bt.out hb)
  replace O4 := hide O4.out.rd
  replace hU := hU.trans (hb.mono hU.size)
  clear hb
  have G4 : Gd l4 := by have h := congrArg Vc.b E4.out; dsimp only at h; rw [h]; exact gd_of (by decide +kernel)
  have L4 := hide (show l4.length ≤ 4096 from Nat.le_trans G4.le (by decide))
  have Y4 := hide G4.by_
  clear G4
  refine anyR_call (i := 60) (m' := 2305843009213693951) rfl rfl (by kernel_rfl) (by kernel_rfl) (by kernel_rfl) (by kernel_rfl) (by kernel_rfl) ((rsame_yes A3 A4 l3 l4 c3 c4 s3 s4 _ L3.out L4.out O3.out O4.out (by rw [E3.out, E4.out]; exact (sm_iff _ _).1 (by decide +kernel))).mono ?_)
  rintro e w64 ⟨rfl, hb⟩
  refine ⟨_, rfl, hb, ?_⟩
  replace Oe := hide (RQ.below Oe.out hb)
  replace Op := hide (RQ.below Op.out hb)
  replace Om := hide (RQ.below Om.out hb)
  replace Ob := hide (RQ.below Ob.out hb)
  replace Oh := hide (RQ.below Oh.out hb)
  replace Ot := hide (RQ.below Ot.out hb)
  replace O3 := hide (RQ.below O3.out hb)
  replace O4 := hide (RQ.below O4.out hb)
  replace Be := hide (Box.kept Be.out hb)
  replace Bp := hide (Box.kept Bp.out hb)
  replace Bm := hide (Box.kept Bm.out hb)
  replace Bb := hide (Box.kept Bb.out hb)
  replace Bh := hide (Box.kept Bh.out hb)
  replace Bt := hide (Box.kept Bt.out hb)
  replace hU := hU.trans (hb.mono hU.size)
  clear hb
  clear O3 C3 L3 Y3
  clear O4 C4 L4 Y4
  refine anyR_val (i := 61) (m' := 4611686018427387903) (v := .bool true) F hQ rfl rfl (by kernel_rfl) (by kernel_rfl) (by kernel_rfl) (by kernel_rfl) (by kernel_rfl) (fun _ _ => by kernel_rfl) ?_
  refine anyR_val (i := 62) (m' := 9223372036854775807) (v := .bool true) F hQ rfl rfl (by kernel_rfl) (by kernel_rfl) (by kernel_rfl) (by kernel_rfl) (by kernel_rfl) (fun _ _ => by kernel_rfl) ?_
  refine anyR_val (i := 63) (m' := 18446744073709551615) (v := .func (.func 10) #[] #[]) F hQ rfl rfl (by kernel_rfl) (by kernel_rfl) (by kernel_rfl) (by kernel_rfl) (by kernel_rfl) (fun _ _ => by kernel_rfl) ?_
  refine anyR_ldvec (i := 64) (m' := 36893488147419103231) Bh0.out F hQ rfl rfl (by kernel_rfl) (by kernel_rfl) (by kernel_rfl) (by kernel_rfl) (by kernel_rfl) rfl (by kernel_rfl) ?_
  refine anyR_call (i := 65) (m' := 73786976294838206463) rfl rfl (by kernel_rfl) (by kernel_rfl) (by kernel_rfl) (by kernel_rfl) (by kernel_rfl) ((vof_any ⟨#[49, 48, 48, 122, 49]⟩ _ (by decide)).mono ?_)
  rintro e w65 ⟨l1, s1, A1, c1, E1, rfl, C1, O1, hb⟩
  refine ⟨_, rfl, hb, ?_⟩
  replace Oe := hide (RQ.below Oe.out hb)
  replace Op := hide (RQ.below Op.out hb)
  replace Om := hide (RQ.below Om.out hb)
  replace Ob := hide (RQ.below Ob.out hb)
  replace Oh := hide (RQ.below Oh.out hb)
  replace Ot := hide (RQ.below Ot.out hb)
  replace Be := hide (Box.kept Be.out hb)
  replace Bp := hide (Box.kept Bp.out hb)
  replace Bm := hide (Box.kept Bm.out hb)
  replace Bb := hide (Box.kept Bb.out hb)
  replace Bh := hide (Box.kept Bh.out hb)
  replace Bt := hide (Box.kept Bt.out hb)
  replace O1 := hide O1.out.rd
  replace hU := hU.trans (hb.mono hU.size)
  clear hb
  have G1 : Gd l1 := by have h := congrArg Vc.b E1.out; dsimp only at h; rw [h]; exact gd_of (by decide +kernel)
  have L1 := hide (show l1.length ≤ 4096 from Nat.le_trans G1.le (by decide))
  have Y1 := hide G1.by_
  clear G1
  refine anyR_call (i := 66) (m' := 147573952589676412927) rfl rfl (by kernel_rfl) (by kernel_rfl) (by kernel_rfl) (by kernel_rfl) (by kernel_rfl) ((rsame_yes Ah A1 lh l1 ch c1 sh s1 _ Lh.out L1.out Oh.out O1.out (by rw [Eh.out, E1.out]; exact (sm_iff _ _).1 (by decide +kernel))).mono ?_)
  rintro e w66 ⟨rfl, hb⟩
  refine ⟨_, rfl, hb, ?_⟩
  replace Oe := hide (RQ.below Oe.out hb)
  replace Op := hide (RQ.below Op.out hb)
  replace Om := hide (RQ.below Om.out hb)
  replace Ob := hide (RQ.below Ob.out hb)
  replace Oh := hide (RQ.below Oh.out hb)
  replace Ot := hide (RQ.below Ot.out hb)
  replace O1 := hide (RQ.below O1.out hb)
  replace Be := hide (Box.kept Be.out hb)
  replace Bp := hide (Box.kept Bp.out hb)
  replace Bm := hide (Box.kept Bm.out hb)
  replace Bb := hide (Box.kept Bb.out hb)
  replace Bh := hide (Box.kept Bh.out hb)
  replace Bt := hide (Box.kept Bt.out hb)
  replace hU := hU.trans (hb.mono hU.size)
  clear hb
  clear O1 C1 L1 Y1
  refine anyR_val (i := 67) (m' := 295147905179352825855) (v := .bool true) F hQ rfl rfl (by kernel_rfl) (by kernel_rfl) (by kernel_rfl) (by kernel_rfl) (by kernel_rfl) (fun _ _ => by kernel_rfl) ?_
  refine anyR_val (i := 68) (m' := 590295810358705651711) (v := .bool true) F hQ rfl rfl (by kernel_rfl) (by kernel_rfl) (by kernel_rfl) (by kernel_rfl) (by kernel_rfl) (fun _ _ => by kernel_rfl) ?_
  refine anyR_val (i := 69) (m' := 1180591620717411303423) (v := .func (.func 10) #[] #[]) F hQ rfl rfl (by kernel_rfl) (by kernel_rfl) (by kernel_rfl) (by kernel_rfl) (by kernel_rfl) (fun _ _ => by kernel_rfl) ?_
  refine anyR_ldvec (i := 70) (m' := 2361183241434822606847) Bt0.out F hQ rfl rfl (by kernel_rfl) (by kernel_rfl) (by kernel_rfl) (by kernel_rfl) (by kernel_rfl) rfl (by kernel_rfl) ?_
  refine anyR_call (i := 71) (m' := 4722366482869645213695) rfl rfl (by kernel_rfl) (by kernel_rfl) (by kernel_rfl) (by kernel_rfl) (by kernel_rfl) ((vof_any ⟨#[120, 49, 48]⟩ _ (by decide)).mono ?_)
  rintro e w67 ⟨l1, s1, A1, c1, E1, rfl, C1, O1, hb⟩
  refine ⟨_, rfl, hb, ?_⟩
  replace Oe := hide (RQ.below Oe.out hb)
  replace Op := hide (RQ.below Op.out hb)
  replace Om := hide (RQ.below Om.out hb)
  replace Ob := hide (RQ.below Ob.out hb)
  replace Oh := hide (RQ.below Oh.out hb)
  replace Ot := hide (RQ.below Ot.out hb)
  replace Be := hide (Box.kept Be.out hb)
  replace Bp := hide (Box.kept Bp.out hb)
  replace Bm := hide (Box.kept Bm.out hb)
  replace Bb := hide (Box.kept Bb.out hb)
  replace Bh := hide (Box.kept Bh.out hb)
  replace Bt := hide (Box.kept Bt.out hb)
  replace O1 := hide O1.out.rd
  replace hU := hU.trans (hb.mono hU.size)
  clear hb
  have G1 : Gd l1 := by have h := congrArg Vc.b E1.out; dsimp only at h; rw [h]; exact gd_of (by decide +kernel)
  have L1 := hide (show l1.length ≤ 4096 from Nat.le_trans G1.le (by decide))
  have Y1 := hide G1.by_
  clear G1
  refine anyR_call (i := 72) (m' := 9444732965739290427391) rfl rfl (by kernel_rfl) (by kernel_rfl) (by kernel_rfl) (by kernel_rfl) (by kernel_rfl) ((rsame_yes At A1 lt l1 ct c1 st s1 _ Lt.out L1.out Ot.out O1.out (by rw [Et.out, E1.out]; exact (sm_iff _ _).1 (by decide +kernel))).mono ?_)
  rintro e w68 ⟨rfl, hb⟩
  refine ⟨_, rfl, hb, ?_⟩
  replace Oe := hide (RQ.below Oe.out hb)
  replace Op := hide (RQ.below Op.out hb)
  replace Om := hide (RQ.below Om.out hb)
  replace Ob := hide (RQ.below Ob.out hb)
  replace Oh := hide (RQ.below Oh.out hb)
  replace Ot := hide (RQ.below Ot.out hb)
  replace O1 := hide (RQ.below O1.out hb)
  replace Be := hide (Box.kept Be.out hb)
  replace Bp := hide (Box.kept Bp.out hb)
  replace Bm := hide (Box.kept Bm.out hb)
  replace Bb := hide (Box.kept Bb.out hb)
  replace Bh := hide (Box.kept Bh.out hb)
  replace Bt := hide (Box.kept Bt.out hb)
  replace hU := hU.trans (hb.mono hU.size)
  clear hb
  clear O1 C1 L1 Y1
  refine anyR_val (i := 73) (m' := 18889465931478580854783) (v := .bool true) F hQ rfl rfl (by kernel_rfl) (by kernel_rfl) (by kernel_rfl) (by kernel_rfl) (by kernel_rfl) (fun _ _ => by kernel_rfl) ?_
  refine anyR_val (i := 74) (m' := 37778931862957161709567) (v := .bool true) F hQ rfl rfl (by kernel_rfl) (by kernel_rfl) (by kernel_rfl) (by kernel_rfl) (by kernel_rfl) (fun _ _ => by kernel_rfl) ?_
  refine anyR_val (i := 75) (m' := 75557863725914323419135) (v := .func (.func 10) #[] #[]) F hQ rfl rfl (by kernel_rfl) (by kernel_rfl) (by kernel_rfl) (by kernel_rfl) (by kernel_rfl) (fun _ _ => by kernel_rfl) ?_
  refine anyR_call (i := 76) (m' := 151115727451828646838271) rfl rfl (by kernel_rfl) (by kernel_rfl) (by kernel_rfl) (by kernel_rfl) (by kernel_rfl) ((vof_any ⟨#[120]⟩ _ (by decide)).mono ?_)
  rintro e w69 ⟨l0, s0, A0, c0, E0, rfl, C0, O0, hb⟩
  refine ⟨_, rfl, hb, ?_⟩
  replace Oe := hide (RQ.below Oe.out hb)
  replace Op := hide (RQ.below Op.out hb)
  replace Om := hide (RQ.below Om.out hb)
  replace Ob := hide (RQ.below Ob.out hb)
  replace Oh := hide (RQ.below Oh.out hb)
  replace Ot := hide (RQ.below Ot.out hb)
  replace Be := hide (Box.kept Be.out hb)
  replace Bp := hide (Box.kept Bp.out hb)
  replace Bm := hide (Box.kept Bm.out hb)
  replace Bb := hide (Box.kept Bb.out hb)
  replace Bh := hide (Box.kept Bh.out hb)
  replace Bt := hide (Box.kept Bt.out hb)
  replace O0 := hide O0.out.rd
  replace hU := hU.trans (hb.mono hU.size)
  clear hb
  have G0 : Gd l0 := by have h := congrArg Vc.b E0.out; dsimp only at h; rw [h]; exact gd_of (by decide +kernel)
  have L0 := hide (show l0.length ≤ 4096 from Nat.le_trans G0.le (by decide))
  have Y0 := hide G0.by_
  clear G0
  refine anyR_call (i := 77) (m' := 302231454903657293676543) rfl rfl (by kernel_rfl) (by kernel_rfl) (by kernel_rfl) (by kernel_rfl) (by kernel_rfl) ((vof_any ⟨#[49, 48, 49, 48]⟩ _ (by decide)).mono ?_)
  rintro e w70 ⟨l1, s1, A1, c1, E1, rfl, C1, O1, hb⟩
  refine ⟨_, rfl, hb, ?_⟩
  replace Oe := hide (RQ.below Oe.out hb)
  replace Op := hide (RQ.below Op.out hb)
  replace Om := hide (RQ.below Om.out hb)
  replace Ob := hide (RQ.below Ob.out hb)
  replace Oh := hide (RQ.below Oh.out hb)
  replace Ot := hide (RQ.below Ot.out hb)
  replace O0 := hide (RQ.below O0.out hb)
  replace Be := hide (Box.kept Be.out hb)
  replace Bp := hide (Box.kept Bp.out hb)
  replace Bm := hide (Box.kept Bm.out hb)
  replace Bb := hide (Box.kept Bb.out hb)
  replace Bh := hide (Box.kept Bh.out hb)
  replace Bt := hide (Box.kept Bt.out hb)
  replace O1 := hide O1.out.rd
  replace hU := hU.trans (hb.mono hU.size)
  clear hb
  have G1 : Gd l1 := by have h := congrArg Vc.b E1.out; dsimp only at h; rw [h]; exact gd_of (by decide +kernel)
  have L1 := hide (show l1.length ≤ 4096 from Nat.le_trans G1.le (by decide))
  have Y1 := hide G1.by_
  clear G1
  refine anyR_call (i := 78) (m' := 604462909807314587353087) rfl rfl (by kernel_rfl) (by kernel_rfl) (by kernel_rfl) (by kernel_rfl) (by kernel_rfl) ((vof_any ⟨#[49, 48, 48, 49]⟩ _ (by decide)).mono ?_)
  rintro e w71 ⟨l2, s2, A2, c2, E2, rfl, C2, O2, hb⟩
  refine ⟨_, rfl, hb, ?_⟩
  replace Oe := hide (RQ.below Oe.out hb)
  replace Op := hide (RQ.below Op.out hb)
  replace Om := hide (RQ.below Om.out hb)
  replace Ob := hide (RQ.below Ob.out hb)
  replace Oh := hide (RQ.below Oh.out hb)
  replace Ot := hide (RQ.below Ot.out hb)
  replace O0 := hide (RQ.below O0.out hb)
  replace O1 := hide (RQ.below O1.out hb)
  replace Be := hide (Box.kept Be.out hb)
  replace Bp := hide (Box.kept Bp.out hb)
  replace Bm := hide (Box.kept Bm.out hb)
  replace Bb := hide (Box.kept Bb.out hb)
  replace Bh := hide (Box.kept Bh.out hb)
  replace Bt := hide (Box.kept Bt.out hb)
  replace O2 := hide O2.out.rd
  replace hU := hU.trans (hb.mono hU.size)
  clear hb
  have G2 : Gd l2 := by have h := congrArg Vc.b E2.out; dsimp only at h; rw [h]; exact gd_of (by decide +kernel)
  have L2 := hide (show l2.length ≤ 4096 from Nat.le_trans G2.le (by decide))
  have Y2 := hide G2.by_
  clear G2
  refine anyR_call (i := 79) (m' := 1208925819614629174706175) rfl rfl (by kernel_rfl) (by kernel_rfl) (by kernel_rfl) (by kernel_rfl) (by kernel_rfl) ((vCond_any A0 l0 c0 s0 A1 A2 l1 l2 c1 c2 s1 s2 _ L1.out L2.out C1 C2 O1.out O2.out Y1.out Y2.out L0.out C0 O0.out Y0.out (HT.out.kept hU)).mono ?_)
  rintro e w72 ⟨l3, s3, A3, c3, E3, rfl, C3, O3, hb⟩
  refine ⟨_, rfl, hb, ?_⟩
  replace Oe := hide (RQ.below Oe.out hb)
  replace Op := hide (RQ.below Op.out hb)
  replace Om := hide (RQ.below Om.out hb)
  replace Ob := hide (RQ.below Ob.out hb)
  replace Oh := hide (RQ.below Oh.out hb)
  replace Ot := hide (RQ.below Ot.out hb)
  replace O0 := hide (RQ.below O0.out hb)
  replace O1 := hide (RQ.below O1.out hb)
  replace O2 := hide (RQ.below O2.out hb)
  replace Be := hide (Box.kept Be.out hb)
  replace Bp := hide (Box.kept Bp.out hb)
  replace Bm := hide (Box.kept Bm.out hb)
  replace Bb := hide (Box.kept Bb.out hb)
  replace Bh := hide (Box.kept Bh.out hb)
  replace Bt := hide (Box.kept Bt.out hb)
  replace O3 := hide O3.out.rd
  replace hU := hU.trans (hb.mono hU.size)
  clear hb
  have G3 : Gd l3 := by have h := congrArg Vc.b E3.out; dsimp only at h; rw [h]; exact (by rw [E0.out, E1.out, E2.out]; exact gd_of (by decide +kernel))
  have L3 := hide (show l3.length ≤ 4096 from Nat.le_trans G3.le (by decide))
  have Y3 := hide G3.by_
  clear G3
  replace E3 := hide (show (⟨l3, s3⟩ : Vc) = vCond ⟨ofB ⟨#[120]⟩, false⟩ ⟨ofB ⟨#[49, 48, 49, 48]⟩, false⟩ ⟨ofB ⟨#[49, 48, 48, 49]⟩, false⟩ from E3.out.trans (by rw [E0.out, E1.out, E2.out]))
  clear O0 C0 L0 Y0
  clear O1 C1 L1 Y1
  clear O2 C2 L2 Y2
  refine anyR_call (i := 80) (m' := 2417851639229258349412351) rfl rfl (by kernel_rfl) (by kernel_rfl) (by kernel_rfl) (by kernel_rfl) (by kernel_rfl) ((vof_any ⟨#[49, 48, 120, 120]⟩ _ (by decide)).mono ?_)
  rintro e w73 ⟨l4, s4, A4, c4, E4, rfl, C4, O4, hb⟩
  refine ⟨_, rfl, hb, ?_⟩
  replace Oe := hide (RQ.below Oe.out hb)
  replace Op := hide (RQ.below Op.out hb)
  replace Om := hide (RQ.below Om.out hb)
  replace Ob := hide (RQ.below Ob.out hb)
  replace Oh := hide (RQ.below Oh.out hb)
  replace Ot := hide (RQ.below Ot.out hb)
  replace O3 := hide (RQ.below O3.out hb)
  replace Be := hide (Box.kept Be.out hb)
  replace Bp := hide (Box.kept Bp.out hb)
  replace Bm := hide (Box.kept Bm.out hb)
  replace Bb := hide (Box.kept Bb.out hb)
  replace Bh := hide (Box.kept Bh.out hb)
  replace Bt := hide (Box.kept Bt.out hb)
  replace O4 := hide O4.out.rd
  replace hU := hU.trans (hb.mono hU.size)
  clear hb
  have G4 : Gd l4 := by have h := congrArg Vc.b E4.out; dsimp only at h; rw [h]; exact gd_of (by decide +kernel)
  have L4 := hide (show l4.length ≤ 4096 from Nat.le_trans G4.le (by decide))
  have Y4 := hide G4.by_
  clear G4
  refine anyR_call (i := 81) (m' := 4835703278458516698824703) rfl rfl (by kernel_rfl) (by kernel_rfl) (by kernel_rfl) (by kernel_rfl) (by kernel_rfl) ((rsame_yes A3 A4 l3 l4 c3 c4 s3 s4 _ L3.out L4.out O3.out O4.out (by rw [E3.out, E4.out]; exact (sm_iff _ _).1 (by decide +kernel))).mono ?_)
  rintro e w74 ⟨rfl, hb⟩
  refine ⟨_, rfl, hb, ?_⟩
  replace Oe := hide (RQ.below Oe.out hb)
  replace Op := hide (RQ.below Op.out hb)
  replace Om := hide (RQ.below Om.out hb)
  replace Ob := hide (RQ.below Ob.out hb)
  replace Oh := hide (RQ.below Oh.out hb)
  replace Ot := hide (RQ.below Ot.out hb)
  replace O3 := hide (RQ.below O3.out hb)
  replace O4 := hide (RQ.below O4.out hb)
  replace Be := hide (Box.kept Be.out hb)
  replace Bp := hide (Box.kept Bp.out hb)
  replace Bm := hide (Box.kept Bm.out hb)
  replace Bb := hide (Box.kept Bb.out hb)
  replace Bh := hide (Box.kept Bh.out hb)
  replace Bt := hide (Box.kept Bt.out hb)
  replace hU := hU.trans (hb.mono hU.size)
  clear hb
  clear O3 C3 L3 Y3
  clear O4 C4 L4 Y4
  refine anyR_val (i := 82) (m' := 9671406556917033397649407) (v := .bool true) F hQ rfl rfl (by kernel_rfl) (by kernel_rfl) (by kernel_rfl) (by kernel_rfl) (by kernel_rfl) (fun _ _ => by kernel_rfl) ?_
  refine anyR_e ?_
  refine anyR_last (i := 83) (m' := 19342813113834066795298815) (v := .bool true) rfl rfl (by kernel_rfl) (by kernel_rfl) (by kernel_rfl) (by kernel_rfl) (by kernel_rfl) ?_
  refine anyE_done (by kernel_rfl) ?_
  clear F hQ Be0 Bp0 Bm0 Bb0 Bh0 Bt0
  refine then_normal ?_
  refine wp_ret ?_
  refine (show bodyPost _ _ _ .ret _ _ from ret_sl (.bool true) rfl (by kernel_rfl) ?_)
  exact ⟨rfl, hU⟩
end
end Go.Proofs.YtkfifkijcknikaaDoor
