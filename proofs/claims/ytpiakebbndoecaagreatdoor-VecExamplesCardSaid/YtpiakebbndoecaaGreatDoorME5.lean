/-
  Texts of ME joined (VecO, VecI2, VecAW, VecSI, VecLI, VecAR, VecSP, VecML, VecPM, VecPU, VecEM, VecN, QT, VecXX, Post).
-/
import Derived.Test.YtpiakebbndoecaaGreatDoorRows
import Derived.Test.YtpiakebbndoecaaGreatDoorTie
import Derived.ProofKit
import Derived.LaidMore
import Derived.OpenShut
import Derived.Stop.Joined
import Derived.Stop.LaidErr
import Derived.Lib.LaidTab
import Derived.Deep.Slices
import Derived.Deep.Fields
import Derived.Lib.SmallJoins
import Derived.ChangeSame
import Derived.ChangeSlices
import Derived.Carry
import Derived.WideKeyArgs
import Derived.Test.YtpiakebbndoecaaGreatDoorME4
set_option linter.unusedVariables false
set_option linter.unusedSimpArgs false
set_option linter.unusedSectionVars false
namespace Go.Proofs.YtpiakebbndoecaaGreatDoor
section
open Go.RowKit
set_option maxRecDepth 100000
set_option linter.unusedSimpArgs false
set_option linter.unusedVariables false
/-- A function value that compares two bits. -/
structure Alike (N : Nat) (f : Int → Int → Bool) : Prop where
  cf : Ent N
  ct : ∀ p q w, Calls Tryz.prog N #[.int .u8 p, .int .u8 q] w fun e w' => e = .returned (.bool (f p q)) ∧ w = w'
theorem alike_same : Alike 109 mSame := ⟨Tryz.call109, fun p q w => (same_q p q w).mono fun e w' h => ⟨h.1, h.2.symm⟩⟩
theorem alike_z : Alike 108 alZ := by
  refine ⟨Tryz.call108, fun p q w => ?_⟩
  unfold alZ
  cases h1 : (p == 3) <;> cases h2 : (q == 3)
  all_goals
    go_enter Tryz.func108, Tryz.ntmps108
    go_wp2_with (go_at_call 109; (with_reducible refine (same_q _ _ _).mono ?_); rintro e w' ⟨rfl, rfl⟩)
    go_ret
    exact ⟨by simp, rfl⟩
theorem alike_x : Alike 110 alX := by
  refine ⟨Tryz.call110, fun p q w => ?_⟩
  unfold alX
  have hp := hide fun w => known_q p w
  have hq := hide fun w => known_q q w
  cases h1 : mKnown p <;> cases h2 : mKnown q <;> rw [h1] at hp <;> rw [h2] at hq
  all_goals
    clear h1 h2
    go_enter Tryz.func110, Tryz.ntmps110
    go_wp2_with (first
      | (go_at_call 109; (with_reducible refine (same_q _ _ _).mono ?_); rintro e w' ⟨rfl, rfl⟩)
      | (go_at_call 111; (with_reducible refine (hp.out _).mono ?_); rintro e w' ⟨rfl, rfl⟩)
      | (go_at_call 111; (with_reducible refine (hq.out _).mono ?_); rintro e w' ⟨rfl, rfl⟩))
    go_ret
    exact ⟨by simp, rfl⟩
set_option maxHeartbeats 2000000 in
theorem match_any (N : Nat) (f : Int → Int → Bool) (hop : Alike N f) (A B : Option Addr) (a b : List Int) (c d : Nat) (s t : Bool) (w : World) (ha : a.length ≤ 4096) (hb : b.length ≤ 4096) (hca : Hid (a.length ≤ c ∧ c ≤ maxLen)) (hcb : Hid (b.length ≤ d ∧ d ≤ maxLen)) (hA : RQ w A a) (hB : RQ w B b) (ya : By a) (yb : By b) :
    Calls Tryz.prog 107 #[.agg #[.slice A a.length c, .bool s], .agg #[.slice B b.length d, .bool t], .func (.func N) #[] #[]] w (Mk (.bool (mtc f ⟨a, s⟩ ⟨b, t⟩)) w) := by
  have hcf : ∀ args w, (callFunc N args).run Tryz.prog w = .ok (.enter N args) w := hop.cf
  have HO := hide hop
  have hwd := wd_bd (a := ⟨a, s⟩) (b := ⟨b, t⟩) ya yb
  have HA := hide hA
  have HBB := hide hB
  have LA := hide ha
  have LB := hide hb
  have YA := hide ya
  have YB := hide yb
  clear hA hB ha hb ya yb
  clear hop
  obtain ⟨n, hn⟩ : ∃ n, n = wd ⟨a, s⟩ ⟨b, t⟩ := ⟨_, rfl⟩
  have hcall := hide fun W (hW : Below w.heap.size w W) => balance_any A B a b c d s t W LA.out LB.out hca hcb (HA.out.below hW) (HBB.out.below hW) YA.out YB.out
  unfold RetB at hcall
  obtain ⟨σ, hσ⟩ : ∃ σ, σ = sg ⟨a, s⟩ ⟨b, t⟩ := ⟨_, rfl⟩
  rw [← hσ] at hcall
  obtain ⟨R, hR⟩ : ∃ R, R = mtc f ⟨a, s⟩ ⟨b, t⟩ := ⟨_, rfl⟩
  rw [← hR]
  have hR2 : R = true ↔ ∀ i, i < n → f (qt (blA ⟨a, s⟩ ⟨b, t⟩) i) (qt (blB ⟨a, s⟩ ⟨b, t⟩) i) = true := by rw [hR, hn]; exact mtc_iff _ _ _
  rw [← hn] at hwd
  have HN := hide hn
  have HR := hide hR2
  clear hn hσ hR hR2
  go_enter Tryz.func107, Tryz.ntmps107
  go_wp2_with fail
  refine (hcall.out _ belo).mono ?_
  rintro e w1 ⟨p, P, pc, q, Q, qc, Ep, Eq, rfl, Cp, Cq, Op, Oq, -, hb⟩
  have hB1 : Below w.heap.size w w1 := Below.trans belo (hb.mono (by first | omega | (simp; done) | (simp; omega)))
  obtain ⟨kc1, kf1⟩ := bcell hb
  have hz1 := hb.size
  (try simp at hz1)
  have n1_0 : w.heap.size < w1.heap.size := by omega
  have n1_1 : w.heap.size + 1 < w1.heap.size := by omega
  clear hb
  have lp : p.length = n := by rw [Ep.out, blA_length, HN.out]
  have lq : q.length = n := by rw [Eq.out, blB_length, HN.out]
  rw [← Ep.out, ← Eq.out] at HR
  obtain ⟨g, rfl, hg, hgr⟩ := Op.out (by omega)
  obtain ⟨h, rfl, hh, hhr⟩ := Oq.out (by omega)
  have HG := hide hgr
  have HH := hide hhr
  have hgl := hgr.lt
  have hhl := hhr.lt
  rw [lp] at HG ⊢
  rw [lq] at HH ⊢
  clear hgr hhr lp lq Op Oq hg hh
  go_wp2_with fail
  go_loopw [20] (fun i wr => ∃ k : Nat, k ≤ n ∧ i = .int .i64 k ∧ Hid (∀ j, j < k → f (qt p j) (qt q j) = true) ∧ ∃ m, wr = w1.drewN m) (fun i _ => n - (intOf i).toNat)
  case atStart => exact ⟨0, Nat.zero_le _, rfl, hide fun j hj => by omega, 0, rfl⟩
  case round =>
    obtain ⟨k, hk, rfl, hno, m, rfl⟩ := hrel
    by_cases hlt : k < n
    · have hc1 : (w1.drewN m).cell? ⟨g, k, none⟩ = some (.int .u8 (qt p k)) := HG.out.cell hlt
      have hc2 : (w1.drewN m).cell? ⟨h, k, none⟩ = some (.int .u8 (qt q k)) := HH.out.cell hlt
      go_wp2_with fail
      have hcl := hide (HO.out.ct (qt p k) (qt q k) (w1.drewN m).drew)
      cases hx : f (qt p k) (qt q k)
      · rw [hx] at hcl
        have hx2 := hide hx
        clear hx
        refine region_anyT (S := fun wS => Below (w1.drewN m).heap.size (w1.drewN m) wS) (n := 10) (by kernel_rfl) (Below.refl _ _).drew (fun hS inv => ?_)
        refine anyT_take (i := 0) (oi := _) (v := Value.func (Fn.func N) #[] #[]) rfl (by kernel_rfl) (by kernel_rfl) (by kernel_rfl) (by decide) (by decide) (by kernel_rfl) (by kernel_rfl) inv (fun _ _ _ h => h) (Or.inl ⟨by kernel_rfl, ?_⟩) hS (fun inv => ?_)
        · intro wz hSw
          first | kernel_rfl | go_simp
        (try simp only [Act.put, List.getElem_toArray, List.getElem_cons_zero, List.getElem_cons_succ, List.setIfInBounds_toArray, List.set_cons_zero, List.set_cons_succ])
        refine anyT_take (i := 1) (oi := _) (v := Value.slice (some ⟨g, 0, none⟩) n pc) rfl (by kernel_rfl) (by kernel_rfl) (by kernel_rfl) (by decide) (by decide) (by kernel_rfl) (by kernel_rfl) inv (fun _ _ _ h => h) (Or.inl ⟨by kernel_rfl, ?_⟩) hS (fun inv => ?_)
        · intro wz hSw
          first | kernel_rfl | go_simp
        (try simp only [Act.put, List.getElem_toArray, List.getElem_cons_zero, List.getElem_cons_succ, List.setIfInBounds_toArray, List.set_cons_zero, List.set_cons_succ])
        refine anyT_take (i := 2) (oi := _) (v := Value.int IntKind.i64 ↑k) rfl (by kernel_rfl) (by kernel_rfl) (by kernel_rfl) (by decide) (by decide) (by kernel_rfl) (by kernel_rfl) inv (fun _ _ _ h => h) (Or.inl ⟨by kernel_rfl, ?_⟩) hS (fun inv => ?_)
        · intro wz hSw
          first | kernel_rfl | go_simp
        (try simp only [Act.put, List.getElem_toArray, List.getElem_cons_zero, List.getElem_cons_succ, List.setIfInBounds_toArray, List.set_cons_zero, List.set_cons_succ])
        refine anyT_take (i := 3) (oi := _) (v := Value.pointer (some ⟨g, k, none⟩)) rfl (by kernel_rfl) (by kernel_rfl) (by kernel_rfl) (by decide) (by decide) (by kernel_rfl) (by kernel_rfl) inv (fun _ _ _ h => h) (Or.inl ⟨by kernel_rfl, ?_⟩) hS (fun inv => ?_)
        · intro wz hSw
          go_simp
        (try simp only [Act.put, List.getElem_toArray, List.getElem_cons_zero, List.getElem_cons_succ, List.setIfInBounds_toArray, List.set_cons_zero, List.set_cons_succ])
        refine anyT_take (i := 4) (oi := _) (v := Value.int IntKind.u8 (qt p k)) rfl (by kernel_rfl) (by kernel_rfl) (by kernel_rfl) (by decide) (by decide) (by kernel_rfl) (by kernel_rfl) inv (fun _ _ _ h => h) (Or.inl ⟨by kernel_rfl, ?_⟩) hS (fun inv => ?_)
        · intro wz hSw
          have hk0 := (hSw : Below _ _ _).cell (p := ⟨g, k, none⟩) (by first | assumption | (simp; done) | omega | (simp; omega)); go_simp
        (try simp only [Act.put, List.getElem_toArray, List.getElem_cons_zero, List.getElem_cons_succ, List.setIfInBounds_toArray, List.set_cons_zero, List.set_cons_succ])
        refine anyT_take (i := 5) (oi := _) (v := Value.slice (some ⟨h, 0, none⟩) n qc) rfl (by kernel_rfl) (by kernel_rfl) (by kernel_rfl) (by decide) (by decide) (by kernel_rfl) (by kernel_rfl) inv (fun _ _ _ h => h) (Or.inl ⟨by kernel_rfl, ?_⟩) hS (fun inv => ?_)
        · intro wz hSw
          first | kernel_rfl | go_simp
        (try simp only [Act.put, List.getElem_toArray, List.getElem_cons_zero, List.getElem_cons_succ, List.setIfInBounds_toArray, List.set_cons_zero, List.set_cons_succ])
        refine anyT_take (i := 6) (oi := _) (v := Value.int IntKind.i64 ↑k) rfl (by kernel_rfl) (by kernel_rfl) (by kernel_rfl) (by decide) (by decide) (by kernel_rfl) (by kernel_rfl) inv (fun _ _ _ h => h) (Or.inl ⟨by kernel_rfl, ?_⟩) hS (fun inv => ?_)
        · intro wz hSw
          first | kernel_rfl | go_simp
        (try simp only [Act.put, List.getElem_toArray, List.getElem_cons_zero, List.getElem_cons_succ, List.setIfInBounds_toArray, List.set_cons_zero, List.set_cons_succ])
        refine anyT_take (i := 7) (oi := _) (v := Value.pointer (some ⟨h, k, none⟩)) rfl (by kernel_rfl) (by kernel_rfl) (by kernel_rfl) (by decide) (by decide) (by kernel_rfl) (by kernel_rfl) inv (fun _ _ _ h => h) (Or.inl ⟨by kernel_rfl, ?_⟩) hS (fun inv => ?_)
        · intro wz hSw
          go_simp
        (try simp only [Act.put, List.getElem_toArray, List.getElem_cons_zero, List.getElem_cons_succ, List.setIfInBounds_toArray, List.set_cons_zero, List.set_cons_succ])
        refine anyT_take (i := 8) (oi := _) (v := Value.int IntKind.u8 (qt q k)) rfl (by kernel_rfl) (by kernel_rfl) (by kernel_rfl) (by decide) (by decide) (by kernel_rfl) (by kernel_rfl) inv (fun _ _ _ h => h) (Or.inl ⟨by kernel_rfl, ?_⟩) hS (fun inv => ?_)
        · intro wz hSw
          have hk0 := (hSw : Below _ _ _).cell (p := ⟨h, k, none⟩) (by first | assumption | (simp; done) | omega | (simp; omega)); go_simp
        (try simp only [Act.put, List.getElem_toArray, List.getElem_cons_zero, List.getElem_cons_succ, List.setIfInBounds_toArray, List.set_cons_zero, List.set_cons_succ])
        refine anyT_ready (rs := [9]) (by kernel_rfl) (by simp) ?_
        refine ReadyT.head (o := _) rfl (by decide) (by kernel_rfl) inv (fun K hK => ?_) ReadyT.nil
        go_simp
        refine (hcl.out).mono ?_
        rintro e w' ⟨rfl, rfl⟩
        go_wp2_with fail
        refine hK.out _ _ ?_ (fun hS inv => ?_)
        · exact hS
        clear hK K
        (try simp only [Act.put, List.getElem_toArray, List.getElem_cons_zero, List.getElem_cons_succ, List.setIfInBounds_toArray, List.set_cons_zero, List.set_cons_succ])
        refine anyT_ready (rs := [10]) (by kernel_rfl) (by simp) ?_
        refine ReadyT.tail (o := _) rfl (by decide) (fun K hK => ?_)
        go_simp
        refine hK.out _ _ ?_
        clear hK K
        (try simp only [Act.put, List.getElem_toArray, List.getElem_cons_zero, List.getElem_cons_succ, List.setIfInBounds_toArray, List.set_cons_zero, List.set_cons_succ])
        refine anyT_done (by kernel_rfl) ?_ _
        go_wp2
        go_ret
        refine ⟨ret_bool ?_, belo⟩
        cases hr : R
        · rfl
        · have := HR.out.1 hr k hlt
          rw [hx2.out] at this
          cases this
      · rw [hx] at hcl
        have hx2 := hide hx
        clear hx
        refine region_anyT (S := fun wS => Below (w1.drewN m).heap.size (w1.drewN m) wS) (n := 10) (by kernel_rfl) (Below.refl _ _).drew (fun hS inv => ?_)
        refine anyT_take (i := 0) (oi := _) (v := Value.func (Fn.func N) #[] #[]) rfl (by kernel_rfl) (by kernel_rfl) (by kernel_rfl) (by decide) (by decide) (by kernel_rfl) (by kernel_rfl) inv (fun _ _ _ h => h) (Or.inl ⟨by kernel_rfl, ?_⟩) hS (fun inv => ?_)
        · intro wz hSw
          first | kernel_rfl | go_simp
        (try simp only [Act.put, List.getElem_toArray, List.getElem_cons_zero, List.getElem_cons_succ, List.setIfInBounds_toArray, List.set_cons_zero, List.set_cons_succ])
        refine anyT_take (i := 1) (oi := _) (v := Value.slice (some ⟨g, 0, none⟩) n pc) rfl (by kernel_rfl) (by kernel_rfl) (by kernel_rfl) (by decide) (by decide) (by kernel_rfl) (by kernel_rfl) inv (fun _ _ _ h => h) (Or.inl ⟨by kernel_rfl, ?_⟩) hS (fun inv => ?_)
        · intro wz hSw
          first | kernel_rfl | go_simp
        (try simp only [Act.put, List.getElem_toArray, List.getElem_cons_zero, List.getElem_cons_succ, List.setIfInBounds_toArray, List.set_cons_zero, List.set_cons_succ])
        refine anyT_take (i := 2) (oi := _) (v := Value.int IntKind.i64 ↑k) rfl (by kernel_rfl) (by kernel_rfl) (by kernel_rfl) (by decide) (by decide) (by kernel_rfl) (by kernel_rfl) inv (fun _ _ _ h => h) (Or.inl ⟨by kernel_rfl, ?_⟩) hS (fun inv => ?_)
        · intro wz hSw
          first | kernel_rfl | go_simp
        (try simp only [Act.put, List.getElem_toArray, List.getElem_cons_zero, List.getElem_cons_succ, List.setIfInBounds_toArray, List.set_cons_zero, List.set_cons_succ])
        refine anyT_take (i := 3) (oi := _) (v := Value.pointer (some ⟨g, k, none⟩)) rfl (by kernel_rfl) (by kernel_rfl) (by kernel_rfl) (by decide) (by decide) (by kernel_rfl) (by kernel_rfl) inv (fun _ _ _ h => h) (Or.inl ⟨by kernel_rfl, ?_⟩) hS (fun inv => ?_)
        · intro wz hSw
          go_simp
        (try simp only [Act.put, List.getElem_toArray, List.getElem_cons_zero, List.getElem_cons_succ, List.setIfInBounds_toArray, List.set_cons_zero, List.set_cons_succ])
        refine anyT_take (i := 4) (oi := _) (v := Value.int IntKind.u8 (qt p k)) rfl (by kernel_rfl) (by kernel_rfl) (by kernel_rfl) (by decide) (by decide) (by kernel_rfl) (by kernel_rfl) inv (fun _ _ _ h => h) (Or.inl ⟨by kernel_rfl, ?_⟩) hS (fun inv => ?_)
        · intro wz hSw
          have hk0 := (hSw : Below _ _ _).cell (p := ⟨g, k, none⟩) (by first | assumption | (simp; done) | omega | (simp; omega)); go_simp
        (try simp only [Act.put, List.getElem_toArray, List.getElem_cons_zero, List.getElem_cons_succ, List.setIfInBounds_toArray, List.set_cons_zero, List.set_cons_succ])
        refine anyT_take (i := 5) (oi := _) (v := Value.slice (some ⟨h, 0, none⟩) n qc) rfl (by kernel_rfl) (by kernel_rfl) (by kernel_rfl) (by decide) (by decide) (by kernel_rfl) (by kernel_rfl) inv (fun _ _ _ h => h) (Or.inl ⟨by kernel_rfl, ?_⟩) hS (fun inv => ?_)
        · intro wz hSw
          first | kernel_rfl | go_simp
        (try simp only [Act.put, List.getElem_toArray, List.getElem_cons_zero, List.getElem_cons_succ, List.setIfInBounds_toArray, List.set_cons_zero, List.set_cons_succ])
        refine anyT_take (i := 6) (oi := _) (v := Value.int IntKind.i64 ↑k) rfl (by kernel_rfl) (by kernel_rfl) (by kernel_rfl) (by decide) (by decide) (by kernel_rfl) (by kernel_rfl) inv (fun _ _ _ h => h) (Or.inl ⟨by kernel_rfl, ?_⟩) hS (fun inv => ?_)
        · intro wz hSw
          first | kernel_rfl | go_simp
        (try simp only [Act.put, List.getElem_toArray, List.getElem_cons_zero, List.getElem_cons_succ, List.setIfInBounds_toArray, List.set_cons_zero, List.set_cons_succ])
        refine anyT_take (i := 7) (oi := _) (v := Value.pointer (some ⟨h, k, none⟩)) rfl (by kernel_rfl) (by kernel_rfl) (by kernel_rfl) (by decide) (by decide) (by kernel_rfl) (by kernel_rfl) inv (fun _ _ _ h => h) (Or.inl ⟨by kernel_rfl, ?_⟩) hS (fun inv => ?_)
        · intro wz hSw
          go_simp
        (try simp only [Act.put, List.getElem_toArray, List.getElem_cons_zero, List.getElem_cons_succ, List.setIfInBounds_toArray, List.set_cons_zero, List.set_cons_succ])
        refine anyT_take (i := 8) (oi := _) (v := Value.int IntKind.u8 (qt q k)) rfl (by kernel_rfl) (by kernel_rfl) (by kernel_rfl) (by decide) (by decide) (by kernel_rfl) (by kernel_rfl) inv (fun _ _ _ h => h) (Or.inl ⟨by kernel_rfl, ?_⟩) hS (fun inv => ?_)
        · intro wz hSw
          have hk0 := (hSw : Below _ _ _).cell (p := ⟨h, k, none⟩) (by first | assumption | (simp; done) | omega | (simp; omega)); go_simp
        (try simp only [Act.put, List.getElem_toArray, List.getElem_cons_zero, List.getElem_cons_succ, List.setIfInBounds_toArray, List.set_cons_zero, List.set_cons_succ])
        refine anyT_ready (rs := [9]) (by kernel_rfl) (by simp) ?_
        refine ReadyT.head (o := _) rfl (by decide) (by kernel_rfl) inv (fun K hK => ?_) ReadyT.nil
        go_simp
        refine (hcl.out).mono ?_
        rintro e w' ⟨rfl, rfl⟩
        go_wp2_with fail
        refine hK.out _ _ ?_ (fun hS inv => ?_)
        · exact hS
        clear hK K
        (try simp only [Act.put, List.getElem_toArray, List.getElem_cons_zero, List.getElem_cons_succ, List.setIfInBounds_toArray, List.set_cons_zero, List.set_cons_succ])
        refine anyT_ready (rs := [10]) (by kernel_rfl) (by simp) ?_
        refine ReadyT.tail (o := _) rfl (by decide) (fun K hK => ?_)
        go_simp
        refine hK.out _ _ ?_
        clear hK K
        (try simp only [Act.put, List.getElem_toArray, List.getElem_cons_zero, List.getElem_cons_succ, List.setIfInBounds_toArray, List.set_cons_zero, List.set_cons_succ])
        refine anyT_done (by kernel_rfl) ?_ _
        go_wp2
        go_roundw
        case rel => exact ⟨k + 1, by omega, by go_num, hide fun j hj => by
          by_cases e : j = k
          · subst e; exact hx2.out
          · exact hno.out j (by omega), _, rfl⟩
        case measure => simp [intOf]; omega
    · go_wp2
      go_ret
      refine ⟨ret_bool ?_, belo⟩
      exact (HR.out.2 fun i hi => hno.out i (by omega)).symm
theorem vMatchZ_any (A B : Option Addr) (a b : List Int) (c d : Nat) (s t : Bool) (w : World) (ha : a.length ≤ 4096) (hb : b.length ≤ 4096) (hca : Hid (a.length ≤ c ∧ c ≤ maxLen)) (hcb : Hid (b.length ≤ d ∧ d ≤ maxLen)) (hA : RQ w A a) (hB : RQ w B b) (ya : By a) (yb : By b) :
    Calls Tryz.prog 21 #[.agg #[.slice A a.length c, .bool s], .agg #[.slice B b.length d, .bool t]] w (Mk (.bool (mtc alZ ⟨a, s⟩ ⟨b, t⟩)) w) := by
  have HA := hide hA
  have HBB := hide hB
  have LA := hide ha
  have LB := hide hb
  have YA := hide ya
  have YB := hide yb
  clear hA hB ha hb ya yb
  go_enter Tryz.func21, Tryz.ntmps21
  go_wp2_with fail
  refine (match_any _ _ alike_z A B a b c d s t _ LA.out LB.out hca hcb (HA.out.below belo) (HBB.out.below belo) YA.out YB.out).mono ?_
  rintro e w1 ⟨rfl, hb⟩
  have hB1 : Below w.heap.size w w1 := Below.trans belo (hb.mono (by first | omega | (simp; done) | (simp; omega)))
  obtain ⟨kc1, kf1⟩ := bcell hb
  have hz1 := hb.size
  (try simp at hz1)
  have n1_0 : w.heap.size < w1.heap.size := by omega
  have n1_1 : w.heap.size + 1 < w1.heap.size := by omega
  clear hb
  go_wp2
  go_ret
  exact ⟨rfl, belo⟩
theorem vMatchX_any (A B : Option Addr) (a b : List Int) (c d : Nat) (s t : Bool) (w : World) (ha : a.length ≤ 4096) (hb : b.length ≤ 4096) (hca : Hid (a.length ≤ c ∧ c ≤ maxLen)) (hcb : Hid (b.length ≤ d ∧ d ≤ maxLen)) (hA : RQ w A a) (hB : RQ w B b) (ya : By a) (yb : By b) :
    Calls Tryz.prog 23 #[.agg #[.slice A a.length c, .bool s], .agg #[.slice B b.length d, .bool t]] w (Mk (.bool (mtc alX ⟨a, s⟩ ⟨b, t⟩)) w) := by
  have HA := hide hA
  have HBB := hide hB
  have LA := hide ha
  have LB := hide hb
  have YA := hide ya
  have YB := hide yb
  clear hA hB ha hb ya yb
  go_enter Tryz.func23, Tryz.ntmps23
  go_wp2_with fail
  refine (match_any _ _ alike_x A B a b c d s t _ LA.out LB.out hca hcb (HA.out.below belo) (HBB.out.below belo) YA.out YB.out).mono ?_
  rintro e w1 ⟨rfl, hb⟩
  have hB1 : Below w.heap.size w w1 := Below.trans belo (hb.mono (by first | omega | (simp; done) | (simp; omega)))
  obtain ⟨kc1, kf1⟩ := bcell hb
  have hz1 := hb.size
  (try simp at hz1)
  have n1_0 : w.heap.size < w1.heap.size := by omega
  have n1_1 : w.heap.size + 1 < w1.heap.size := by omega
  clear hb
  go_wp2
  go_ret
  exact ⟨rfl, belo⟩
theorem vCaseEq_any (A B : Option Addr) (a b : List Int) (c d : Nat) (s t : Bool) (w : World) (ha : a.length ≤ 4096) (hb : b.length ≤ 4096) (hca : Hid (a.length ≤ c ∧ c ≤ maxLen)) (hcb : Hid (b.length ≤ d ∧ d ≤ maxLen)) (hA : RQ w A a) (hB : RQ w B b) (ya : By a) (yb : By b) :
    Calls Tryz.prog 81 #[.agg #[.slice A a.length c, .bool s], .agg #[.slice B b.length d, .bool t]] w (RetC (· = vCase ⟨a, s⟩ ⟨b, t⟩) w) := by
  have HA := hide hA
  have HBB := hide hB
  have LA := hide ha
  have LB := hide hb
  have YA := hide ya
  have YB := hide yb
  clear hA hB ha hb ya yb
  go_enter Tryz.func81, Tryz.ntmps81
  go_wp2_with fail
  refine (match_any _ _ alike_same A B a b c d s t _ LA.out LB.out hca hcb (HA.out.below belo) (HBB.out.below belo) YA.out YB.out).mono ?_
  rintro e w1 ⟨rfl, hb⟩
  have hB1 : Below w.heap.size w w1 := Below.trans belo (hb.mono (by first | omega | (simp; done) | (simp; omega)))
  obtain ⟨kc1, kf1⟩ := bcell hb
  have hz1 := hb.size
  (try simp at hz1)
  have n1_0 : w.heap.size < w1.heap.size := by omega
  have n1_1 : w.heap.size + 1 < w1.heap.size := by omega
  have n1_2 : w.heap.size + 2 < w1.heap.size := by omega
  have r1_0 : w1.cell? ⟨w.heap.size + 2, 0, none⟩ = some (.slice none 0 0) := (kc1 _ _ (by first | assumption | (simp; done) | omega | (simp; omega))).trans (by first | assumption | (simp [go_sem]; done) | (simp; done))
  have g1_0 : w1.frozen? ⟨w.heap.size + 2, 0, none⟩ = false := (kf1 _ _ (by first | assumption | (simp; done) | omega | (simp; omega))).trans (by first | assumption | (simp [go_sem]; done) | (simp; done))
  have r1_1 : w1.cell? ⟨w.heap.size + 2, 1, none⟩ = some (.bool false) := (kc1 _ _ (by first | assumption | (simp; done) | omega | (simp; omega))).trans (by first | assumption | (simp [go_sem]; done) | (simp; done))
  have g1_1 : w1.frozen? ⟨w.heap.size + 2, 1, none⟩ = false := (kf1 _ _ (by first | assumption | (simp; done) | omega | (simp; omega))).trans (by first | assumption | (simp [go_sem]; done) | (simp; done))
  clear hb
  go_wp2_with fail
  refine (from_q _ _).mono ?_
  rintro e w' ⟨rfl, rfl⟩
  go_wp2_with fail
  refine (single_any _ _).mono ?_
  rintro e w2 ⟨l1, s1, A1, c1, E1, rfl, C1, O1, hb⟩
  replace O1 := hide (O1.out.base (show w.heap.size + 3 ≤ _ by first | omega | (simp; omega) | (simp; done)))
  have hB2 : Below w.heap.size w w2 := Below.trans belo (hb.mono (by first | omega | (simp; done) | (simp; omega)))
  obtain ⟨kc2, kf2⟩ := bcell hb
  have hz2 := hb.size
  (try simp at hz2)
  have n2_0 : w.heap.size < w2.heap.size := by omega
  have n2_1 : w.heap.size + 1 < w2.heap.size := by omega
  have n2_2 : w.heap.size + 2 < w2.heap.size := by omega
  have r2_0 : w2.cell? ⟨w.heap.size + 2, 0, none⟩ = some (.slice none 0 0) := (kc2 _ _ (by first | assumption | (simp; done) | omega | (simp; omega))).trans (by first | assumption | (simp [go_sem]; done) | (simp; done))
  have g2_0 : w2.frozen? ⟨w.heap.size + 2, 0, none⟩ = false := (kf2 _ _ (by first | assumption | (simp; done) | omega | (simp; omega))).trans (by first | assumption | (simp [go_sem]; done) | (simp; done))
  have r2_1 : w2.cell? ⟨w.heap.size + 2, 1, none⟩ = some (.bool false) := (kc2 _ _ (by first | assumption | (simp; done) | omega | (simp; omega))).trans (by first | assumption | (simp [go_sem]; done) | (simp; done))
  have g2_1 : w2.frozen? ⟨w.heap.size + 2, 1, none⟩ = false := (kf2 _ _ (by first | assumption | (simp; done) | omega | (simp; omega))).trans (by first | assumption | (simp [go_sem]; done) | (simp; done))
  clear hb
  go_wp2
  refine bodyPost_ret (v := .agg #[.slice A1 l1.length c1, .bool s1]) (by simp [results, Tryz.results81, go_sem, *]) rfl ?_
  exact ⟨l1, s1, A1, c1, hide (E1.out), rfl, C1, hide (OwQ.base (B := w.heap.size + 3) (by (repeat (first | with_reducible exact O1.out | with_reducible refine OwQ.far ?_ (by first | (simp; done) | omega | (simp; omega)) _ | with_reducible refine OwQ.allc ?_ _ | with_reducible refine OwQ.drew ?_ | with_reducible refine OwQ.drewN ?_ _))) (by omega)), belo⟩
theorem vCaseNe_any (A B : Option Addr) (a b : List Int) (c d : Nat) (s t : Bool) (w : World) (ha : a.length ≤ 4096) (hb : b.length ≤ 4096) (hca : Hid (a.length ≤ c ∧ c ≤ maxLen)) (hcb : Hid (b.length ≤ d ∧ d ≤ maxLen)) (hA : RQ w A a) (hB : RQ w B b) (ya : By a) (yb : By b) (ht : Tabs w) :
    Calls Tryz.prog 82 #[.agg #[.slice A a.length c, .bool s], .agg #[.slice B b.length d, .bool t]] w (RetC (· = sgl (mNot (mFrom (mtc mSame ⟨a, s⟩ ⟨b, t⟩)))) w) := by
  have HA := hide hA
  have HBB := hide hB
  have LA := hide ha
  have LB := hide hb
  have YA := hide ya
  have YB := hide yb
  clear hA hB ha hb ya yb
  have HT := hide ht
  clear ht
  go_enter Tryz.func82, Tryz.ntmps82
  go_wp2_with fail
  refine (vCaseEq_any A B a b c d s t _ LA.out LB.out hca hcb (HA.out.below belo) (HBB.out.below belo) YA.out YB.out).mono ?_
  rintro e w1 ⟨l1, s1, A1, c1, E1, rfl, C1, O1, hb⟩
  replace O1 := hide (O1.out.base (show w.heap.size + 3 ≤ _ by first | omega | (simp; omega) | (simp; done)))
  have hB1 : Below w.heap.size w w1 := Below.trans belo (hb.mono (by first | omega | (simp; done) | (simp; omega)))
  obtain ⟨kc1, kf1⟩ := bcell hb
  have hz1 := hb.size
  (try simp at hz1)
  have n1_0 : w.heap.size < w1.heap.size := by omega
  have n1_1 : w.heap.size + 1 < w1.heap.size := by omega
  have n1_2 : w.heap.size + 2 < w1.heap.size := by omega
  have r1_0 : w1.cell? ⟨w.heap.size + 2, 0, none⟩ = some (.slice none 0 0) := (kc1 _ _ (by first | assumption | (simp; done) | omega | (simp; omega))).trans (by first | assumption | (simp [go_sem]; done) | (simp; done))
  have g1_0 : w1.frozen? ⟨w.heap.size + 2, 0, none⟩ = false := (kf1 _ _ (by first | assumption | (simp; done) | omega | (simp; omega))).trans (by first | assumption | (simp [go_sem]; done) | (simp; done))
  have r1_1 : w1.cell? ⟨w.heap.size + 2, 1, none⟩ = some (.bool false) := (kc1 _ _ (by first | assumption | (simp; done) | omega | (simp; omega))).trans (by first | assumption | (simp [go_sem]; done) | (simp; done))
  have g1_1 : w1.frozen? ⟨w.heap.size + 2, 1, none⟩ = false := (kf1 _ _ (by first | assumption | (simp; done) | omega | (simp; omega))).trans (by first | assumption | (simp [go_sem]; done) | (simp; done))
  clear hb
  have B1 := mFrom_bd (mtc mSame ⟨a, s⟩ ⟨b, t⟩)
  have Y1 := by_of_gd E1.out (gd_sgl B1)
  have L1 := len_of_gd E1.out (gd_sgl B1)
  go_wp2_with fail
  refine (vNot_any A1 l1 c1 s1 _ (by omega) C1 (by refine OwQ.rd (B := w.heap.size + 3) ?_; (repeat (first | with_reducible exact O1.out | with_reducible refine OwQ.far ?_ (by first | (simp; done) | omega | (simp; omega)) _ | with_reducible refine OwQ.allc ?_ _ | with_reducible refine OwQ.drew ?_ | with_reducible refine OwQ.drewN ?_ _))) Y1 (HT.out.kept belo)).mono ?_
  rintro e w2 ⟨l2, s2, A2, c2, E2, rfl, C2, O2, hb⟩
  replace O1 := hide ((show OwQ (w.heap.size + 3) _ A1 l1 by (repeat (first | with_reducible exact O1.out | with_reducible refine OwQ.far ?_ (by first | (simp; done) | omega | (simp; omega)) _ | with_reducible refine OwQ.allc ?_ _ | with_reducible refine OwQ.drew ?_ | with_reducible refine OwQ.drewN ?_ _))).kept hb)
  replace O2 := hide (O2.out.base (show w.heap.size + 3 ≤ _ by first | omega | (simp; omega) | (simp; done)))
  have hB2 : Below w.heap.size w w2 := Below.trans belo (hb.mono (by first | omega | (simp; done) | (simp; omega)))
  obtain ⟨kc2, kf2⟩ := bcell hb
  have hz2 := hb.size
  (try simp at hz2)
  have n2_0 : w.heap.size < w2.heap.size := by omega
  have n2_1 : w.heap.size + 1 < w2.heap.size := by omega
  have n2_2 : w.heap.size + 2 < w2.heap.size := by omega
  have r2_0 : w2.cell? ⟨w.heap.size + 2, 0, none⟩ = some (.slice none 0 0) := (kc2 _ _ (by first | assumption | (simp; done) | omega | (simp; omega))).trans (by first | assumption | (simp [go_sem]; done) | (simp; done))
  have g2_0 : w2.frozen? ⟨w.heap.size + 2, 0, none⟩ = false := (kf2 _ _ (by first | assumption | (simp; done) | omega | (simp; omega))).trans (by first | assumption | (simp [go_sem]; done) | (simp; done))
  have r2_1 : w2.cell? ⟨w.heap.size + 2, 1, none⟩ = some (.bool false) := (kc2 _ _ (by first | assumption | (simp; done) | omega | (simp; omega))).trans (by first | assumption | (simp [go_sem]; done) | (simp; done))
  have g2_1 : w2.frozen? ⟨w.heap.size + 2, 1, none⟩ = false := (kf2 _ _ (by first | assumption | (simp; done) | omega | (simp; omega))).trans (by first | assumption | (simp [go_sem]; done) | (simp; done))
  clear hb
  go_wp2
  refine bodyPost_ret (v := .agg #[.slice A2 l2.length c2, .bool s2]) (by simp [results, Tryz.results82, go_sem, *]) rfl ?_
  exact ⟨l2, s2, A2, c2, hide (E2.out.trans (by rw [E1.out]; exact vNot_sgl B1)), rfl, C2, hide (OwQ.base (B := w.heap.size + 3) (by (repeat (first | with_reducible exact O2.out | with_reducible refine OwQ.far ?_ (by first | (simp; done) | omega | (simp; omega)) _ | with_reducible refine OwQ.allc ?_ _ | with_reducible refine OwQ.drew ?_ | with_reducible refine OwQ.drewN ?_ _))) (by omega)), belo⟩
theorem gd_btw {N : Nat} {f : Int → Int → Int} (hop : OpF N f) {a b : Vc} (ya : By a.b) (yb : By b.b) : Gd (btw f a b).b := gd_ql (wd_bd ya yb).1 (wd_bd ya yb).2 fun i _ => hop.bd _ _ ((gd_blA ya yb).bd i) ((gd_blB ya yb).bd i)
theorem vEq_any (A B : Option Addr) (a b : List Int) (c d : Nat) (s t : Bool) (w : World) (ha : a.length ≤ 4096) (hb : b.length ≤ 4096) (hca : Hid (a.length ≤ c ∧ c ≤ maxLen)) (hcb : Hid (b.length ≤ d ∧ d ≤ maxLen)) (hA : RQ w A a) (hB : RQ w B b) (ya : By a) (yb : By b) (ht : Tabs w) :
    Calls Tryz.prog 91 #[.agg #[.slice A a.length c, .bool s], .agg #[.slice B b.length d, .bool t]] w (RetC (· = vEq ⟨a, s⟩ ⟨b, t⟩) w) := by
  have HA := hide hA
  have HBB := hide hB
  have LA := hide ha
  have LB := hide hb
  have YA := hide ya
  have YB := hide yb
  clear hA hB ha hb ya yb
  have HT := hide ht
  clear ht
  go_enter Tryz.func91, Tryz.ntmps91
  go_wp2_with fail
  refine (vXnor_any A B a b c d s t _ LA.out LB.out hca hcb (HA.out.below belo) (HBB.out.below belo) YA.out YB.out (HT.out.kept belo)).mono ?_
  rintro e w1 ⟨l1, s1, A1, c1, E1, rfl, C1, O1, hb⟩
  replace O1 := hide (O1.out.base (show w.heap.size + 3 ≤ _ by first | omega | (simp; omega) | (simp; done)))
  have hB1 : Below w.heap.size w w1 := Below.trans belo (hb.mono (by first | omega | (simp; done) | (simp; omega)))
  obtain ⟨kc1, kf1⟩ := bcell hb
  have hz1 := hb.size
  (try simp at hz1)
  have n1_0 : w.heap.size < w1.heap.size := by omega
  have n1_1 : w.heap.size + 1 < w1.heap.size := by omega
  have n1_2 : w.heap.size + 2 < w1.heap.size := by omega
  have r1_0 : w1.cell? ⟨w.heap.size + 2, 0, none⟩ = some (.slice none 0 0) := (kc1 _ _ (by first | assumption | (simp; done) | omega | (simp; omega))).trans (by first | assumption | (simp [go_sem]; done) | (simp; done))
  have g1_0 : w1.frozen? ⟨w.heap.size + 2, 0, none⟩ = false := (kf1 _ _ (by first | assumption | (simp; done) | omega | (simp; omega))).trans (by first | assumption | (simp [go_sem]; done) | (simp; done))
  have r1_1 : w1.cell? ⟨w.heap.size + 2, 1, none⟩ = some (.bool false) := (kc1 _ _ (by first | assumption | (simp; done) | omega | (simp; omega))).trans (by first | assumption | (simp [go_sem]; done) | (simp; done))
  have g1_1 : w1.frozen? ⟨w.heap.size + 2, 1, none⟩ = false := (kf1 _ _ (by first | assumption | (simp; done) | omega | (simp; omega))).trans (by first | assumption | (simp [go_sem]; done) | (simp; done))
  clear hb
  have G1 := gd_btw opF_eq (a := ⟨a, s⟩) (b := ⟨b, t⟩) YA.out YB.out
  have Y1 := by_of_gd E1.out G1
  have L1 := len_of_gd E1.out G1
  go_wp2_with fail
  refine (vRedAnd_any A1 l1 c1 s1 _ (by omega) C1 (by refine OwQ.rd (B := w.heap.size + 3) ?_; (repeat (first | with_reducible exact O1.out | with_reducible refine OwQ.far ?_ (by first | (simp; done) | omega | (simp; omega)) _ | with_reducible refine OwQ.allc ?_ _ | with_reducible refine OwQ.drew ?_ | with_reducible refine OwQ.drewN ?_ _))) Y1 (HT.out.kept belo)).mono ?_
  rintro e w2 ⟨l2, s2, A2, c2, E2, rfl, C2, O2, hb⟩
  replace O1 := hide ((show OwQ (w.heap.size + 3) _ A1 l1 by (repeat (first | with_reducible exact O1.out | with_reducible refine OwQ.far ?_ (by first | (simp; done) | omega | (simp; omega)) _ | with_reducible refine OwQ.allc ?_ _ | with_reducible refine OwQ.drew ?_ | with_reducible refine OwQ.drewN ?_ _))).kept hb)
  replace O2 := hide (O2.out.base (show w.heap.size + 3 ≤ _ by first | omega | (simp; omega) | (simp; done)))
  have hB2 : Below w.heap.size w w2 := Below.trans belo (hb.mono (by first | omega | (simp; done) | (simp; omega)))
  obtain ⟨kc2, kf2⟩ := bcell hb
  have hz2 := hb.size
  (try simp at hz2)
  have n2_0 : w.heap.size < w2.heap.size := by omega
  have n2_1 : w.heap.size + 1 < w2.heap.size := by omega
  have n2_2 : w.heap.size + 2 < w2.heap.size := by omega
  have r2_0 : w2.cell? ⟨w.heap.size + 2, 0, none⟩ = some (.slice none 0 0) := (kc2 _ _ (by first | assumption | (simp; done) | omega | (simp; omega))).trans (by first | assumption | (simp [go_sem]; done) | (simp; done))
  have g2_0 : w2.frozen? ⟨w.heap.size + 2, 0, none⟩ = false := (kf2 _ _ (by first | assumption | (simp; done) | omega | (simp; omega))).trans (by first | assumption | (simp [go_sem]; done) | (simp; done))
  have r2_1 : w2.cell? ⟨w.heap.size + 2, 1, none⟩ = some (.bool false) := (kc2 _ _ (by first | assumption | (simp; done) | omega | (simp; omega))).trans (by first | assumption | (simp [go_sem]; done) | (simp; done))
  have g2_1 : w2.frozen? ⟨w.heap.size + 2, 1, none⟩ = false := (kf2 _ _ (by first | assumption | (simp; done) | omega | (simp; omega))).trans (by first | assumption | (simp [go_sem]; done) | (simp; done))
  clear hb
  go_wp2
  refine bodyPost_ret (v := .agg #[.slice A2 l2.length c2, .bool s2]) (by simp [results, Tryz.results91, go_sem, *]) rfl ?_
  exact ⟨l2, s2, A2, c2, hide (E2.out.trans (by rw [E1.out]; rfl)), rfl, C2, hide (OwQ.base (B := w.heap.size + 3) (by (repeat (first | with_reducible exact O2.out | with_reducible refine OwQ.far ?_ (by first | (simp; done) | omega | (simp; omega)) _ | with_reducible refine OwQ.allc ?_ _ | with_reducible refine OwQ.drew ?_ | with_reducible refine OwQ.drewN ?_ _))) (by omega)), belo⟩
theorem vNe_any (A B : Option Addr) (a b : List Int) (c d : Nat) (s t : Bool) (w : World) (ha : a.length ≤ 4096) (hb : b.length ≤ 4096) (hca : Hid (a.length ≤ c ∧ c ≤ maxLen)) (hcb : Hid (b.length ≤ d ∧ d ≤ maxLen)) (hA : RQ w A a) (hB : RQ w B b) (ya : By a) (yb : By b) (ht : Tabs w) :
    Calls Tryz.prog 80 #[.agg #[.slice A a.length c, .bool s], .agg #[.slice B b.length d, .bool t]] w (RetC (· = sgl (mNot (red mAnd (btw mEq ⟨a, s⟩ ⟨b, t⟩)))) w) := by
  have HA := hide hA
  have HBB := hide hB
  have LA := hide ha
  have LB := hide hb
  have YA := hide ya
  have YB := hide yb
  clear hA hB ha hb ya yb
  have HT := hide ht
  clear ht
  go_enter Tryz.func80, Tryz.ntmps80
  go_wp2_with fail
  refine (vEq_any A B a b c d s t _ LA.out LB.out hca hcb (HA.out.below belo) (HBB.out.below belo) YA.out YB.out (HT.out.kept belo)).mono ?_
  rintro e w1 ⟨l1, s1, A1, c1, E1, rfl, C1, O1, hb⟩
  replace O1 := hide (O1.out.base (show w.heap.size + 3 ≤ _ by first | omega | (simp; omega) | (simp; done)))
  have hB1 : Below w.heap.size w w1 := Below.trans belo (hb.mono (by first | omega | (simp; done) | (simp; omega)))
  obtain ⟨kc1, kf1⟩ := bcell hb
  have hz1 := hb.size
  (try simp at hz1)
  have n1_0 : w.heap.size < w1.heap.size := by omega
  have n1_1 : w.heap.size + 1 < w1.heap.size := by omega
  have n1_2 : w.heap.size + 2 < w1.heap.size := by omega
  have r1_0 : w1.cell? ⟨w.heap.size + 2, 0, none⟩ = some (.slice none 0 0) := (kc1 _ _ (by first | assumption | (simp; done) | omega | (simp; omega))).trans (by first | assumption | (simp [go_sem]; done) | (simp; done))
  have g1_0 : w1.frozen? ⟨w.heap.size + 2, 0, none⟩ = false := (kf1 _ _ (by first | assumption | (simp; done) | omega | (simp; omega))).trans (by first | assumption | (simp [go_sem]; done) | (simp; done))
  have r1_1 : w1.cell? ⟨w.heap.size + 2, 1, none⟩ = some (.bool false) := (kc1 _ _ (by first | assumption | (simp; done) | omega | (simp; omega))).trans (by first | assumption | (simp [go_sem]; done) | (simp; done))
  have g1_1 : w1.frozen? ⟨w.heap.size + 2, 1, none⟩ = false := (kf1 _ _ (by first | assumption | (simp; done) | omega | (simp; omega))).trans (by first | assumption | (simp [go_sem]; done) | (simp; done))
  clear hb
  have B1 := red_bd opF_and (a := btw mEq ⟨a, s⟩ ⟨b, t⟩) (gd_btw opF_eq YA.out YB.out).by_
  have Y1 := by_of_gd E1.out (gd_sgl B1)
  have L1 := len_of_gd E1.out (gd_sgl B1)
  go_wp2_with fail
  refine (vNot_any A1 l1 c1 s1 _ (by omega) C1 (by refine OwQ.rd (B := w.heap.size + 3) ?_; (repeat (first | with_reducible exact O1.out | with_reducible refine OwQ.far ?_ (by first | (simp; done) | omega | (simp; omega)) _ | with_reducible refine OwQ.allc ?_ _ | with_reducible refine OwQ.drew ?_ | with_reducible refine OwQ.drewN ?_ _))) Y1 (HT.out.kept belo)).mono ?_
  rintro e w2 ⟨l2, s2, A2, c2, E2, rfl, C2, O2, hb⟩
  replace O1 := hide ((show OwQ (w.heap.size + 3) _ A1 l1 by (repeat (first | with_reducible exact O1.out | with_reducible refine OwQ.far ?_ (by first | (simp; done) | omega | (simp; omega)) _ | with_reducible refine OwQ.allc ?_ _ | with_reducible refine OwQ.drew ?_ | with_reducible refine OwQ.drewN ?_ _))).kept hb)
  replace O2 := hide (O2.out.base (show w.heap.size + 3 ≤ _ by first | omega | (simp; omega) | (simp; done)))
  have hB2 : Below w.heap.size w w2 := Below.trans belo (hb.mono (by first | omega | (simp; done) | (simp; omega)))
  obtain ⟨kc2, kf2⟩ := bcell hb
  have hz2 := hb.size
  (try simp at hz2)
  have n2_0 : w.heap.size < w2.heap.size := by omega
  have n2_1 : w.heap.size + 1 < w2.heap.size := by omega
  have n2_2 : w.heap.size + 2 < w2.heap.size := by omega
  have r2_0 : w2.cell? ⟨w.heap.size + 2, 0, none⟩ = some (.slice none 0 0) := (kc2 _ _ (by first | assumption | (simp; done) | omega | (simp; omega))).trans (by first | assumption | (simp [go_sem]; done) | (simp; done))
  have g2_0 : w2.frozen? ⟨w.heap.size + 2, 0, none⟩ = false := (kf2 _ _ (by first | assumption | (simp; done) | omega | (simp; omega))).trans (by first | assumption | (simp [go_sem]; done) | (simp; done))
  have r2_1 : w2.cell? ⟨w.heap.size + 2, 1, none⟩ = some (.bool false) := (kc2 _ _ (by first | assumption | (simp; done) | omega | (simp; omega))).trans (by first | assumption | (simp [go_sem]; done) | (simp; done))
  have g2_1 : w2.frozen? ⟨w.heap.size + 2, 1, none⟩ = false := (kf2 _ _ (by first | assumption | (simp; done) | omega | (simp; omega))).trans (by first | assumption | (simp [go_sem]; done) | (simp; done))
  clear hb
  go_wp2
  refine bodyPost_ret (v := .agg #[.slice A2 l2.length c2, .bool s2]) (by simp [results, Tryz.results80, go_sem, *]) rfl ?_
  exact ⟨l2, s2, A2, c2, hide (E2.out.trans (by rw [E1.out]; exact vNot_sgl B1)), rfl, C2, hide (OwQ.base (B := w.heap.size + 3) (by (repeat (first | with_reducible exact O2.out | with_reducible refine OwQ.far ?_ (by first | (simp; done) | omega | (simp; omega)) _ | with_reducible refine OwQ.allc ?_ _ | with_reducible refine OwQ.drew ?_ | with_reducible refine OwQ.drewN ?_ _))) (by omega)), belo⟩
end
section
open Go.RowKit
set_option maxRecDepth 100000
set_option linter.unusedSimpArgs false
set_option linter.unusedVariables false
theorem btw_first (a b : Vc) : btw (fun p _ => p) a b = ⟨blA a b, sg a b⟩ := by
  unfold btw
  refine Vc.ext' ?_ rfl
  rw [← blA_length a b]
  exact ql_qt _
theorem btw_second (a b : Vc) : btw (fun _ q => q) a b = ⟨blB a b, sg a b⟩ := by
  unfold btw
  refine Vc.ext' ?_ rfl
  rw [← blB_length a b]
  exact ql_qt _
theorem vCond_any (C : Option Addr) (z : List Int) (e : Nat) (r : Bool) (A B : Option Addr) (a b : List Int) (c d : Nat) (s t : Bool) (w : World) (ha : a.length ≤ 4096) (hb : b.length ≤ 4096) (hca : Hid (a.length ≤ c ∧ c ≤ maxLen)) (hcb : Hid (b.length ≤ d ∧ d ≤ maxLen)) (hA : RQ w A a) (hB : RQ w B b) (ya : By a) (yb : By b) (hz : z.length ≤ 4096) (hce : Hid (z.length ≤ e ∧ e ≤ maxLen)) (hC : RQ w C z) (yc : By z) (ht : Tabs w) :
    Calls Tryz.prog 51 #[.agg #[.slice C z.length e, .bool r], .agg #[.slice A a.length c, .bool s], .agg #[.slice B b.length d, .bool t]] w (RetC (· = vCond ⟨z, r⟩ ⟨a, s⟩ ⟨b, t⟩) w) := by
  have HA := hide hA
  have HBB := hide hB
  have LA := hide ha
  have LB := hide hb
  have YA := hide ya
  have YB := hide yb
  clear hA hB ha hb ya yb
  have HT := hide ht
  have HC := hide hC
  have LC := hide hz
  have YC := hide yc
  clear ht hC hz yc
  obtain ⟨v, hv⟩ : ∃ v, v = tr ⟨z, r⟩ := ⟨_, rfl⟩
  have hcall := hide fun W (hW : Below w.heap.size w W) => truth_any C z e r W LC.out hce (HC.out.below hW) YC.out (HT.out.kept hW)
  rw [← hv] at hcall
  have HV := hide hv
  clear hv
  by_cases h1 : v = 1
  · subst h1
    have HS := hide (show btw (fun p _ => p) ⟨a, s⟩ ⟨b, t⟩ = vCond ⟨z, r⟩ ⟨a, s⟩ ⟨b, t⟩ by unfold vCond; rw [← HV.out, if_pos rfl, btw_first])
    clear HV
    go_enter Tryz.func51, Tryz.ntmps51
    go_wp2_with fail
    refine (hcall.out _ belo).mono ?_
    rintro e w1 ⟨rfl, hb⟩
    have hB1 : Below w.heap.size w w1 := Below.trans belo (hb.mono (by first | omega | (simp; done) | (simp; omega)))
    obtain ⟨kc1, kf1⟩ := bcell hb
    have hz1 := hb.size
    (try simp at hz1)
    have n1_0 : w.heap.size < w1.heap.size := by omega
    have n1_1 : w.heap.size + 1 < w1.heap.size := by omega
    have n1_2 : w.heap.size + 2 < w1.heap.size := by omega
    have n1_3 : w.heap.size + 3 < w1.heap.size := by omega
    have r1_0 : w1.cell? ⟨w.heap.size + 3, 0, none⟩ = some (.slice none 0 0) := (kc1 _ _ (by first | assumption | (simp; done) | omega | (simp; omega))).trans (by first | assumption | (simp [go_sem]; done) | (simp; done))
    have g1_0 : w1.frozen? ⟨w.heap.size + 3, 0, none⟩ = false := (kf1 _ _ (by first | assumption | (simp; done) | omega | (simp; omega))).trans (by first | assumption | (simp [go_sem]; done) | (simp; done))
    have r1_1 : w1.cell? ⟨w.heap.size + 3, 1, none⟩ = some (.bool false) := (kc1 _ _ (by first | assumption | (simp; done) | omega | (simp; omega))).trans (by first | assumption | (simp [go_sem]; done) | (simp; done))
    have g1_1 : w1.frozen? ⟨w.heap.size + 3, 1, none⟩ = false := (kf1 _ _ (by first | assumption | (simp; done) | omega | (simp; omega))).trans (by first | assumption | (simp [go_sem]; done) | (simp; done))
    clear hb
    go_wp2_with fail
    refine (bitwise_any _ _ opF_first A B a b c d s t _ LA.out LB.out hca hcb (HA.out.below belo) (HBB.out.below belo) YA.out YB.out (HT.out.kept belo)).mono ?_
    rintro e w2 ⟨l1, s1, A1, c1, E1, rfl, C1, O1, hb⟩
    replace O1 := hide (O1.out.base (show w.heap.size + 4 ≤ _ by first | omega | (simp; omega) | (simp; done)))
    have hB2 : Below w.heap.size w w2 := Below.trans belo (hb.mono (by first | omega | (simp; done) | (simp; omega)))
    obtain ⟨kc2, kf2⟩ := bcell hb
    have hz2 := hb.size
    (try simp at hz2)
    have n2_0 : w.heap.size < w2.heap.size := by omega
    have n2_1 : w.heap.size + 1 < w2.heap.size := by omega
    have n2_2 : w.heap.size + 2 < w2.heap.size := by omega
    have n2_3 : w.heap.size + 3 < w2.heap.size := by omega
    have r2_0 : w2.cell? ⟨w.heap.size + 3, 0, none⟩ = some (.slice none 0 0) := (kc2 _ _ (by first | assumption | (simp; done) | omega | (simp; omega))).trans (by first | assumption | (simp [go_sem]; done) | (simp; done))
    have g2_0 : w2.frozen? ⟨w.heap.size + 3, 0, none⟩ = false := (kf2 _ _ (by first | assumption | (simp; done) | omega | (simp; omega))).trans (by first | assumption | (simp [go_sem]; done) | (simp; done))
    have r2_1 : w2.cell? ⟨w.heap.size + 3, 1, none⟩ = some (.bool false) := (kc2 _ _ (by first | assumption | (simp; done) | omega | (simp; omega))).trans (by first | assumption | (simp [go_sem]; done) | (simp; done))
    have g2_1 : w2.frozen? ⟨w.heap.size + 3, 1, none⟩ = false := (kf2 _ _ (by first | assumption | (simp; done) | omega | (simp; omega))).trans (by first | assumption | (simp [go_sem]; done) | (simp; done))
    clear hb
    go_wp2
    refine bodyPost_ret (v := .agg #[.slice A1 l1.length c1, .bool s1]) (by simp [results, Tryz.results51, go_sem, *]) rfl ?_
    exact ⟨l1, s1, A1, c1, hide (E1.out.trans HS.out), rfl, C1, hide (OwQ.base (B := w.heap.size + 4) (by (repeat (first | with_reducible exact O1.out | with_reducible refine OwQ.far ?_ (by first | (simp; done) | omega | (simp; omega)) _ | with_reducible refine OwQ.allc ?_ _ | with_reducible refine OwQ.drew ?_ | with_reducible refine OwQ.drewN ?_ _))) (by omega)), belo⟩
  · by_cases h0 : v = 0
    · subst h0
      have HS := hide (show btw (fun _ q => q) ⟨a, s⟩ ⟨b, t⟩ = vCond ⟨z, r⟩ ⟨a, s⟩ ⟨b, t⟩ by unfold vCond; rw [← HV.out, if_neg h1, if_pos rfl, btw_second])
      clear HV h1
      go_enter Tryz.func51, Tryz.ntmps51
      go_wp2_with fail
      refine (hcall.out _ belo).mono ?_
      rintro e w1 ⟨rfl, hb⟩
      have hB1 : Below w.heap.size w w1 := Below.trans belo (hb.mono (by first | omega | (simp; done) | (simp; omega)))
      obtain ⟨kc1, kf1⟩ := bcell hb
      have hz1 := hb.size
      (try simp at hz1)
      have n1_0 : w.heap.size < w1.heap.size := by omega
      have n1_1 : w.heap.size + 1 < w1.heap.size := by omega
      have n1_2 : w.heap.size + 2 < w1.heap.size := by omega
      have n1_3 : w.heap.size + 3 < w1.heap.size := by omega
      have r1_0 : w1.cell? ⟨w.heap.size + 3, 0, none⟩ = some (.slice none 0 0) := (kc1 _ _ (by first | assumption | (simp; done) | omega | (simp; omega))).trans (by first | assumption | (simp [go_sem]; done) | (simp; done))
      have g1_0 : w1.frozen? ⟨w.heap.size + 3, 0, none⟩ = false := (kf1 _ _ (by first | assumption | (simp; done) | omega | (simp; omega))).trans (by first | assumption | (simp [go_sem]; done) | (simp; done))
      have r1_1 : w1.cell? ⟨w.heap.size + 3, 1, none⟩ = some (.bool false) := (kc1 _ _ (by first | assumption | (simp; done) | omega | (simp; omega))).trans (by first | assumption | (simp [go_sem]; done) | (simp; done))
      have g1_1 : w1.frozen? ⟨w.heap.size + 3, 1, none⟩ = false := (kf1 _ _ (by first | assumption | (simp; done) | omega | (simp; omega))).trans (by first | assumption | (simp [go_sem]; done) | (simp; done))
      clear hb
      go_wp2_with fail
      refine (bitwise_any _ _ opF_second A B a b c d s t _ LA.out LB.out hca hcb (HA.out.below belo) (HBB.out.below belo) YA.out YB.out (HT.out.kept belo)).mono ?_
      rintro e w2 ⟨l1, s1, A1, c1, E1, rfl, C1, O1, hb⟩
      replace O1 := hide (O1.out.base (show w.heap.size + 4 ≤ _ by first | omega | (simp; omega) | (simp; done)))
      have hB2 : Below w.heap.size w w2 := Below.trans belo (hb.mono (by first | omega | (simp; done) | (simp; omega)))
      obtain ⟨kc2, kf2⟩ := bcell hb
      have hz2 := hb.size
      (try simp at hz2)
      have n2_0 : w.heap.size < w2.heap.size := by omega
      have n2_1 : w.heap.size + 1 < w2.heap.size := by omega
      have n2_2 : w.heap.size + 2 < w2.heap.size := by omega
      have n2_3 : w.heap.size + 3 < w2.heap.size := by omega
      have r2_0 : w2.cell? ⟨w.heap.size + 3, 0, none⟩ = some (.slice none 0 0) := (kc2 _ _ (by first | assumption | (simp; done) | omega | (simp; omega))).trans (by first | assumption | (simp [go_sem]; done) | (simp; done))
      have g2_0 : w2.frozen? ⟨w.heap.size + 3, 0, none⟩ = false := (kf2 _ _ (by first | assumption | (simp; done) | omega | (simp; omega))).trans (by first | assumption | (simp [go_sem]; done) | (simp; done))
      have r2_1 : w2.cell? ⟨w.heap.size + 3, 1, none⟩ = some (.bool false) := (kc2 _ _ (by first | assumption | (simp; done) | omega | (simp; omega))).trans (by first | assumption | (simp [go_sem]; done) | (simp; done))
      have g2_1 : w2.frozen? ⟨w.heap.size + 3, 1, none⟩ = false := (kf2 _ _ (by first | assumption | (simp; done) | omega | (simp; omega))).trans (by first | assumption | (simp [go_sem]; done) | (simp; done))
      clear hb
      go_wp2
      refine bodyPost_ret (v := .agg #[.slice A1 l1.length c1, .bool s1]) (by simp [results, Tryz.results51, go_sem, *]) rfl ?_
      exact ⟨l1, s1, A1, c1, hide (E1.out.trans HS.out), rfl, C1, hide (OwQ.base (B := w.heap.size + 4) (by (repeat (first | with_reducible exact O1.out | with_reducible refine OwQ.far ?_ (by first | (simp; done) | omega | (simp; omega)) _ | with_reducible refine OwQ.allc ?_ _ | with_reducible refine OwQ.drew ?_ | with_reducible refine OwQ.drewN ?_ _))) (by omega)), belo⟩
    · have HS := hide (show btw (mMux 2) ⟨a, s⟩ ⟨b, t⟩ = vCond ⟨z, r⟩ ⟨a, s⟩ ⟨b, t⟩ by unfold vCond; rw [← HV.out, if_neg h1, if_neg h0])
      clear HV
      have e1 : (v == 1) = false := by simpa using h1
      have e0 : (v == 0) = false := by simpa using h0
      go_enter Tryz.func51, Tryz.ntmps51
      go_wp2_with fail
      refine (hcall.out _ belo).mono ?_
      rintro e w1 ⟨rfl, hb⟩
      have hB1 : Below w.heap.size w w1 := Below.trans belo (hb.mono (by first | omega | (simp; done) | (simp; omega)))
      obtain ⟨kc1, kf1⟩ := bcell hb
      have hz1 := hb.size
      (try simp at hz1)
      have n1_0 : w.heap.size < w1.heap.size := by omega
      have n1_1 : w.heap.size + 1 < w1.heap.size := by omega
      have n1_2 : w.heap.size + 2 < w1.heap.size := by omega
      have n1_3 : w.heap.size + 3 < w1.heap.size := by omega
      have r1_0 : w1.cell? ⟨w.heap.size + 3, 0, none⟩ = some (.slice none 0 0) := (kc1 _ _ (by first | assumption | (simp; done) | omega | (simp; omega))).trans (by first | assumption | (simp [go_sem]; done) | (simp; done))
      have g1_0 : w1.frozen? ⟨w.heap.size + 3, 0, none⟩ = false := (kf1 _ _ (by first | assumption | (simp; done) | omega | (simp; omega))).trans (by first | assumption | (simp [go_sem]; done) | (simp; done))
      have r1_1 : w1.cell? ⟨w.heap.size + 3, 1, none⟩ = some (.bool false) := (kc1 _ _ (by first | assumption | (simp; done) | omega | (simp; omega))).trans (by first | assumption | (simp [go_sem]; done) | (simp; done))
      have g1_1 : w1.frozen? ⟨w.heap.size + 3, 1, none⟩ = false := (kf1 _ _ (by first | assumption | (simp; done) | omega | (simp; omega))).trans (by first | assumption | (simp [go_sem]; done) | (simp; done))
      clear hb
      go_wp2_with fail
      refine (bitwise_any _ _ opF_mux A B a b c d s t _ LA.out LB.out hca hcb (HA.out.below belo) (HBB.out.below belo) YA.out YB.out (HT.out.kept belo)).mono ?_
      rintro e w2 ⟨l1, s1, A1, c1, E1, rfl, C1, O1, hb⟩
      replace O1 := hide (O1.out.base (show w.heap.size + 4 ≤ _ by first | omega | (simp; omega) | (simp; done)))
      have hB2 : Below w.heap.size w w2 := Below.trans belo (hb.mono (by first | omega | (simp; done) | (simp; omega)))
      obtain ⟨kc2, kf2⟩ := bcell hb
      have hz2 := hb.size
      (try simp at hz2)
      have n2_0 : w.heap.size < w2.heap.size := by omega
      have n2_1 : w.heap.size + 1 < w2.heap.size := by omega
      have n2_2 : w.heap.size + 2 < w2.heap.size := by omega
      have n2_3 : w.heap.size + 3 < w2.heap.size := by omega
      have r2_0 : w2.cell? ⟨w.heap.size + 3, 0, none⟩ = some (.slice none 0 0) := (kc2 _ _ (by first | assumption | (simp; done) | omega | (simp; omega))).trans (by first | assumption | (simp [go_sem]; done) | (simp; done))
      have g2_0 : w2.frozen? ⟨w.heap.size + 3, 0, none⟩ = false := (kf2 _ _ (by first | assumption | (simp; done) | omega | (simp; omega))).trans (by first | assumption | (simp [go_sem]; done) | (simp; done))
      have r2_1 : w2.cell? ⟨w.heap.size + 3, 1, none⟩ = some (.bool false) := (kc2 _ _ (by first | assumption | (simp; done) | omega | (simp; omega))).trans (by first | assumption | (simp [go_sem]; done) | (simp; done))
      have g2_1 : w2.frozen? ⟨w.heap.size + 3, 1, none⟩ = false := (kf2 _ _ (by first | assumption | (simp; done) | omega | (simp; omega))).trans (by first | assumption | (simp [go_sem]; done) | (simp; done))
      clear hb
      go_wp2
      refine bodyPost_ret (v := .agg #[.slice A1 l1.length c1, .bool s1]) (by simp [results, Tryz.results51, go_sem, *]) rfl ?_
      exact ⟨l1, s1, A1, c1, hide (E1.out.trans HS.out), rfl, C1, hide (OwQ.base (B := w.heap.size + 4) (by (repeat (first | with_reducible exact O1.out | with_reducible refine OwQ.far ?_ (by first | (simp; done) | omega | (simp; omega)) _ | with_reducible refine OwQ.allc ?_ _ | with_reducible refine OwQ.drew ?_ | with_reducible refine OwQ.drewN ?_ _))) (by omega)), belo⟩
end
section
open Go.RowKit
set_option maxRecDepth 100000
set_option linter.unusedSimpArgs false
set_option linter.unusedVariables false
set_option maxHeartbeats 4000000 in
theorem vawake_any (w : World) (ht : Tabs w) : Calls Tryz.prog 13 #[] w (Mk (.bool true) w) := by
 have HT := hide ht
 clear ht
 have hU : Below w.heap.size w w := Below.refl _ _
 refine calls_sl (l := []) 196 Tryz.func13 rfl (by kernel_rfl) (by simp) (zs (z1 [(0, z_f)] (sx_n (z1 [(1, .func (.func 16) #[] #[])] (sx_n ?_)))))
 refine zc rfl ((vfrom_q 5 8 true _ (by decide) (by decide) (by decide) (by decide)).mono ?_)
 rintro e w1 ⟨le, se, Ae, ce, Ee, rfl, Ce, Oe, hb⟩
 refine ⟨_, rfl, ?_⟩
 replace Ee := hide (ret_e0 Ee.out)
 replace Oe := hide Oe.out.rd
 replace hU := zU hU hU.size hb
 clear hb
 have Ge := zGd Ee (gd_of (by decide +kernel))
 have Le := zLe Ge
 have Ye := hide Ge.by_
 clear Ge
 refine z3 [(23, .int .i64 0), (22, .agg #[.slice Ae le.length ce, .bool se]), (20, .tuple #[.agg #[.slice Ae le.length ce, .bool se], .int .i64 0])] (zm (A := Ae) (m := le.length) (c := ce) (s := se) rfl rfl rfl ?_)
 intro w2 Ne Be hNe hb
 replace Be := hide Be
 replace Oe := zQ Oe hb
 have hze : w.heap.size ≤ Ne := Nat.le_trans hU.size hNe
 clear hNe
 replace hU := zU hU hU.size hb
 clear hb
 refine z1 [(3, .int .i64 0)] (sx_n ?_)
 refine zc rfl ((vfrom_q 5 8 false _ (by decide) (by decide) (by decide) (by decide)).mono ?_)
 rintro e w3 ⟨lp, sp, Ap, cp, Ep, rfl, Cp, Op, hb⟩
 refine ⟨_, rfl, ?_⟩
 replace Oe := zQ Oe hb
 replace Be := zX Be hb
 replace Ep := hide (ret_e0 Ep.out)
 replace Op := hide Op.out.rd
 replace hU := zU hU hU.size hb
 clear hb
 have Gp := zGd Ep (gd_of (by decide +kernel))
 have Lp := zLe Gp
 have Yp := hide Gp.by_
 clear Gp
 refine z3 [(27, .int .i64 0), (26, .agg #[.slice Ap lp.length cp, .bool sp]), (24, .tuple #[.agg #[.slice Ap lp.length cp, .bool sp], .int .i64 0])] (zm (A := Ap) (m := lp.length) (c := cp) (s := sp) rfl rfl rfl ?_)
 intro w4 Np Bp hNp hb
 replace Bp := hide Bp
 replace Oe := zQ Oe hb
 replace Op := zQ Op hb
 replace Be := zX Be hb
 have hzp : w.heap.size ≤ Np := Nat.le_trans hU.size hNp
 clear hNp
 replace hU := zU hU hU.size hb
 clear hb
 refine z1 [(5, .int .i64 0)] (sx_n ?_)
 refine zc rfl ((vfrom_q (-1) 32 true _ (by decide) (by decide) (by decide) (by decide)).mono ?_)
 rintro e w5 ⟨lm, sm, Am, cm, Em, rfl, Cm, Om, hb⟩
 refine ⟨_, rfl, ?_⟩
 replace Oe := zQ Oe hb
 replace Op := zQ Op hb
 replace Be := zX Be hb
 replace Bp := zX Bp hb
 replace Em := hide (ret_e0 Em.out)
 replace Om := hide Om.out.rd
 replace hU := zU hU hU.size hb
 clear hb
 have Gm := zGd Em (gd_of (by decide +kernel))
 have Lm := zLe Gm
 have Ym := hide Gm.by_
 clear Gm
 refine z3 [(31, .int .i64 0), (30, .agg #[.slice Am lm.length cm, .bool sm]), (28, .tuple #[.agg #[.slice Am lm.length cm, .bool sm], .int .i64 0])] (zm (A := Am) (m := lm.length) (c := cm) (s := sm) rfl rfl rfl ?_)
 intro w6 Nm Bm hNm hb
 replace Bm := hide Bm
 replace Oe := zQ Oe hb
 replace Op := zQ Op hb
 replace Om := zQ Om hb
 replace Be := zX Be hb
 replace Bp := zX Bp hb
 have hzm : w.heap.size ≤ Nm := Nat.le_trans hU.size hNm
 clear hNm
 replace hU := zU hU hU.size hb
 clear hb
 refine z1 [(7, .int .i64 0)] (sx_n ?_)
 refine zc rfl ((vfrom_q 2 32 true _ (by decide) (by decide) (by decide) (by decide)).mono ?_)
 rintro e w7 ⟨lb, sb, Ab, cb, Eb, rfl, Cb, Ob, hb⟩
 refine ⟨_, rfl, ?_⟩
 replace Oe := zQ Oe hb
 replace Op := zQ Op hb
 replace Om := zQ Om hb
 replace Be := zX Be hb
 replace Bp := zX Bp hb
 replace Bm := zX Bm hb
 replace Eb := hide (ret_e0 Eb.out)
 replace Ob := hide Ob.out.rd
 replace hU := zU hU hU.size hb
 clear hb
 have Gb := zGd Eb (gd_of (by decide +kernel))
 have Lb := zLe Gb
 have Yb := hide Gb.by_
 clear Gb
 refine z3 [(35, .int .i64 0), (34, .agg #[.slice Ab lb.length cb, .bool sb]), (32, .tuple #[.agg #[.slice Ab lb.length cb, .bool sb], .int .i64 0])] (zm (A := Ab) (m := lb.length) (c := cb) (s := sb) rfl rfl rfl ?_)
 intro w8 Nb Bb hNb hb
 replace Bb := hide Bb
 replace Oe := zQ Oe hb
 replace Op := zQ Op hb
 replace Om := zQ Om hb
 replace Ob := zQ Ob hb
 replace Be := zX Be hb
 replace Bp := zX Bp hb
 replace Bm := zX Bm hb
 have hzb : w.heap.size ≤ Nb := Nat.le_trans hU.size hNb
 clear hNb
 replace hU := zU hU hU.size hb
 clear hb
 refine z1 [(9, .int .i64 0)] (sx_n ?_)
 refine zc rfl ((vof_any ⟨#[49, 48]⟩ _ (by decide)).mono ?_)
 rintro e w9 ⟨l1, s1, A1, c1, E1, rfl, C1, O1, hb⟩
 refine ⟨_, rfl, ?_⟩
 replace Oe := zQ Oe hb
 replace Op := zQ Op hb
 replace Om := zQ Om hb
 replace Ob := zQ Ob hb
 replace Be := zX Be hb
 replace Bp := zX Bp hb
 replace Bm := zX Bm hb
 replace Bb := zX Bb hb
 replace O1 := hide O1.out.rd
 replace hU := zU hU hU.size hb
 clear hb
 have G1 := zGd E1 (gd_of (by decide +kernel))
 have L1 := zLe G1
 have Y1 := hide G1.by_
 clear G1
 refine zc rfl ((vof_any ⟨#[48, 122, 49]⟩ _ (by decide)).mono ?_)
 rintro e w10 ⟨l2, s2, A2, c2, E2, rfl, C2, O2, hb⟩
 refine ⟨_, rfl, ?_⟩
 replace Oe := zQ Oe hb
 replace Op := zQ Op hb
 replace Om := zQ Om hb
 replace Ob := zQ Ob hb
 replace O1 := zQ O1 hb
 replace Be := zX Be hb
 replace Bp := zX Bp hb
 replace Bm := zX Bm hb
 replace Bb := zX Bb hb
 replace O2 := hide O2.out.rd
 replace hU := zU hU hU.size hb
 clear hb
 have G2 := zGd E2 (gd_of (by decide +kernel))
 have L2 := zLe G2
 have Y2 := hide G2.by_
 clear G2
 refine wpl_bs2 rfl (by kernel_rfl) rfl (A0 := A1) (l0 := l1) (c0 := c1) (s0 := s1) (A1 := A2) (l1 := l2) (c1 := c2) (s1 := s2) (by kernel_rfl) (by kernel_rfl) O1.out Y1.out L1.out C1 O2.out Y2.out L2.out C2 ?_
 intro w11 NV11 RV11 hlV11 hNV11 hb
 replace RV11 := hide RV11
 replace Oe := zQ Oe hb
 replace Op := zQ Op hb
 replace Om := zQ Om hb
 replace Ob := zQ Ob hb
 replace O1 := zQ O1 hb
 replace O2 := zQ O2 hb
 replace Be := zX Be hb
 replace Bp := zX Bp hb
 replace Bm := zX Bm hb
 replace Bb := zX Bb hb
 replace hU := zU hU hU.size hb
 clear hb hNV11
 refine zc rfl ((vConcat_e0 NV11 2 [(A1, l1, c1, s1), (A2, l2, c2, s2)] _ hlV11 (by simp) (by simp) RV11.out (by show cte [⟨l1, s1⟩, ⟨l2, s2⟩] = 0; rw [E1.out, E2.out]; decide +kernel)).mono ?_)
 rintro e w12 ⟨lh, sh, Ah, ch, Eh, rfl, Ch, Oh, hb⟩
 refine ⟨_, rfl, ?_⟩
 replace Oe := zQ Oe hb
 replace Op := zQ Op hb
 replace Om := zQ Om hb
 replace Ob := zQ Ob hb
 replace O1 := zQ O1 hb
 replace O2 := zQ O2 hb
 replace Be := zX Be hb
 replace Bp := zX Bp hb
 replace Bm := zX Bm hb
 replace Bb := zX Bb hb
 replace Eh := hide (ret_e0 Eh.out)
 replace Oh := hide Oh.out.rd
 replace hU := zU hU hU.size hb
 clear hb
 have Gh := zGd Eh ((by show Gd (cats [⟨l1, s1⟩, ⟨l2, s2⟩]); rw [E1.out, E2.out]; exact gd_of (by decide +kernel)))
 have Lh := zLe Gh
 have Yh := hide Gh.by_
 clear Gh
 replace Eh := hide (show (⟨lh, sh⟩ : Vc) = ⟨cats [⟨ofB ⟨#[49, 48]⟩, false⟩, ⟨ofB ⟨#[48, 122, 49]⟩, false⟩], false⟩ from Eh.out.trans (by show (⟨cats [⟨l1, s1⟩, ⟨l2, s2⟩], false⟩ : Vc) = _; rw [E1.out, E2.out]))
 clear RV11 O1 C1 L1 Y1
 clear O2 C2 L2 Y2
 refine z3 [(42, .int .i64 0), (41, .agg #[.slice Ah lh.length ch, .bool sh]), (36, .tuple #[.agg #[.slice Ah lh.length ch, .bool sh], .int .i64 0])] (zm (A := Ah) (m := lh.length) (c := ch) (s := sh) rfl rfl rfl ?_)
 intro w13 Nh Bh hNh hb
 replace Bh := hide Bh
 replace Oe := zQ Oe hb
 replace Op := zQ Op hb
 replace Om := zQ Om hb
 replace Ob := zQ Ob hb
 replace Oh := zQ Oh hb
 replace Be := zX Be hb
 replace Bp := zX Bp hb
 replace Bm := zX Bm hb
 replace Bb := zX Bb hb
 have hzh : w.heap.size ≤ Nh := Nat.le_trans hU.size hNh
 clear hNh
 replace hU := zU hU hU.size hb
 clear hb
 refine z1 [(11, .int .i64 0)] (sx_n ?_)
 refine zc rfl ((vof_any ⟨#[49, 48, 49, 49]⟩ _ (by decide)).mono ?_)
 rintro e w14 ⟨l1, s1, A1, c1, E1, rfl, C1, O1, hb⟩
 refine ⟨_, rfl, ?_⟩
 replace Oe := zQ Oe hb
 replace Op := zQ Op hb
 replace Om := zQ Om hb
 replace Ob := zQ Ob hb
 replace Oh := zQ Oh hb
 replace Be := zX Be hb
 replace Bp := zX Bp hb
 replace Bm := zX Bm hb
 replace Bb := zX Bb hb
 replace Bh := zX Bh hb
 replace O1 := hide O1.out.rd
 replace hU := zU hU hU.size hb
 clear hb
 have G1 := zGd E1 (gd_of (by decide +kernel))
 have L1 := zLe G1
 have Y1 := hide G1.by_
 clear G1
 refine zc rfl ((vSlice_e0 4 2 A1 l1 c1 s1 _ L1.out C1 O1.out Y1.out (by decide) (by decide) (by decide) (by decide) (by decide)).mono ?_)
 rintro e w15 ⟨lt, st, At, ct, Et, rfl, Ct, Ot, hb⟩
 refine ⟨_, rfl, ?_⟩
 replace Oe := zQ Oe hb
 replace Op := zQ Op hb
 replace Om := zQ Om hb
 replace Ob := zQ Ob hb
 replace Oh := zQ Oh hb
 replace O1 := zQ O1 hb
 replace Be := zX Be hb
 replace Bp := zX Bp hb
 replace Bm := zX Bm hb
 replace Bb := zX Bb hb
 replace Bh := zX Bh hb
 replace Et := hide (ret_e0 Et.out)
 replace Ot := hide Ot.out.rd
 replace hU := zU hU hU.size hb
 clear hb
 have Gt := zGd Et ((by rw [E1.out]; exact gd_of (by decide +kernel)))
 have Lt := zLe Gt
 have Yt := hide Gt.by_
 clear Gt
 replace Et := hide (show (⟨lt, st⟩ : Vc) = ⟨wdw (cnt ⟨ofB ⟨#[49, 48, 49, 49]⟩, false⟩).b 2 (4 - 2 + 1 : Int).toNat 2, false⟩ from Et.out.trans (by rw [E1.out]))
 clear O1 C1 L1 Y1
 refine z3 [(47, .int .i64 0), (46, .agg #[.slice At lt.length ct, .bool st]), (43, .tuple #[.agg #[.slice At lt.length ct, .bool st], .int .i64 0])] (zm (A := At) (m := lt.length) (c := ct) (s := st) rfl rfl rfl ?_)
 intro w16 Nt Bt hNt hb
 replace Bt := hide Bt
 replace Oe := zQ Oe hb
 replace Op := zQ Op hb
 replace Om := zQ Om hb
 replace Ob := zQ Ob hb
 replace Oh := zQ Oh hb
 replace Ot := zQ Ot hb
 replace Be := zX Be hb
 replace Bp := zX Bp hb
 replace Bm := zX Bm hb
 replace Bb := zX Bb hb
 replace Bh := zX Bh hb
 have hzt : w.heap.size ≤ Nt := Nat.le_trans hU.size hNt
 clear hNt
 replace hU := zU hU hU.size hb
 clear hb
 refine z1 [(13, .int .i64 0)] (ze (wp_seq (zs (wpl_r16 [(63, .int .i64 0), (62, z_f), (61, z_f), (60, z_f), (59, .int .i64 0), (58, z_f), (57, z_f), (56, z_f), (55, .int .i64 0), (54, z_f), (53, z_f), (52, z_f), (51, .int .i64 0), (50, z_f), (49, z_f), (48, .int .i64 0)] (by kernel_rfl) (z6 [(69, z_f), (68, z_f), (67, .int .i64 0), (66, z_f), (65, z_f), (64, z_f)] ?_)))))
 refine ze (zif (wp_skip (then_normal (wp_seq (region_R (n := 8) (N := 9) (by kernel_rfl) (by kernel_rfl) (by kernel_rfl) (by kernel_rfl) (by kernel_rfl) (by kernel_rfl) (fun _ _ _ _ _ h => h) ?_)))))
 intro F hQ
 have Be0 := Be
 have Bp0 := Bp
 have Bm0 := Bm
 have Bb0 := Bb
 have Bh0 := Bh
 have Bt0 := Bt
 refine anyR_ldvec (i := 1) (m' := 2) Bp0.out F hQ rfl rfl (by kernel_rfl) (by kernel_rfl) (by kernel_rfl) (by kernel_rfl) (by kernel_rfl) rfl (by kernel_rfl) ?_
 refine zac (i := 0) (m' := 3) rfl rfl ((vsof_any ⟨#[49, 49, 48, 49]⟩ _ (by decide)).mono ?_)
 rintro e w17 ⟨l1, s1, A1, c1, E1, rfl, C1, O1, hb⟩
 refine ⟨_, rfl, hb, ?_⟩
 replace hb : Below w16.heap.size w16 w17 := Below.trans ((Below.refl _ _).drew) hb
 replace Oe := zQ Oe hb
 replace Op := zQ Op hb
 replace Om := zQ Om hb
 replace Ob := zQ Ob hb
 replace Oh := zQ Oh hb
 replace Ot := zQ Ot hb
 replace Be := zX Be hb
 replace Bp := zX Bp hb
 replace Bm := zX Bm hb
 replace Bb := zX Bb hb
 replace Bh := zX Bh hb
 replace Bt := zX Bt hb
 replace O1 := hide O1.out.rd
 replace hU := zU hU hU.size hb
 clear hb
 have G1 := zGd E1 (gd_of (by decide +kernel))
 have L1 := zLe G1
 have Y1 := hide G1.by_
 clear G1
 refine zac (i := 2) (m' := 7) rfl rfl ((vAdd_any A1 Ap l1 lp c1 cp s1 sp _ L1.out Lp.out C1 Cp O1.out Op.out Y1.out Yp.out).mono ?_)
 rintro e w18 ⟨l2, s2, A2, c2, E2, rfl, C2, O2, hb⟩
 refine ⟨_, rfl, hb, ?_⟩
 replace Oe := zQ Oe hb
 replace Op := zQ Op hb
 replace Om := zQ Om hb
 replace Ob := zQ Ob hb
 replace Oh := zQ Oh hb
 replace Ot := zQ Ot hb
 replace O1 := zQ O1 hb
 replace Be := zX Be hb
 replace Bp := zX Bp hb
 replace Bm := zX Bm hb
 replace Bb := zX Bb hb
 replace Bh := zX Bh hb
 replace Bt := zX Bt hb
 replace O2 := hide O2.out.rd
 replace hU := zU hU hU.size hb
 clear hb
 have G2 := zGd E2 ((by rw [E1.out, Ep.out]; exact gd_of (by decide +kernel)))
 have L2 := zLe G2
 have Y2 := hide G2.by_
 clear G2
 replace E2 := hide (show (⟨l2, s2⟩ : Vc) = vAdd ⟨ofB ⟨#[49, 49, 48, 49]⟩, true⟩ ⟨fb (vz 8 5), false⟩ from E2.out.trans (by rw [E1.out, Ep.out]))
 clear O1 C1 L1 Y1
 refine zac (i := 3) (m' := 15) rfl rfl ((vint_val (18) A2 l2 c2 s2 _ L2.out C2 O2.out Y2.out (by rw [E2.out]; decide +kernel) (by rw [E2.out]; decide +kernel) (by decide) (by decide)).mono ?_)
 rintro e w19 ⟨rfl, hb⟩
 refine ⟨_, rfl, hb, ?_⟩
 replace Oe := zQ Oe hb
 replace Op := zQ Op hb
 replace Om := zQ Om hb
 replace Ob := zQ Ob hb
 replace Oh := zQ Oh hb
 replace Ot := zQ Ot hb
 replace O2 := zQ O2 hb
 replace Be := zX Be hb
 replace Bp := zX Bp hb
 replace Bm := zX Bm hb
 replace Bb := zX Bb hb
 replace Bh := zX Bh hb
 replace Bt := zX Bt hb
 replace hU := zU hU hU.size hb
 clear hb O2 C2 L2 Y2
 refine zav (i := 4) (m' := 31) (v := .tuple #[.int .i64 18, .bool true]) F hQ rfl rfl (zav (i := 5) (m' := 63) (v := .int .i64 18) F hQ rfl rfl (zav (i := 6) (m' := 127) (v := .bool true) F hQ rfl rfl (zav (i := 7) (m' := 255) (v := .int .i64 18) F hQ rfl rfl (anyR_e (anyR_last (i := 8) (m' := 511) (v := .bool true) rfl rfl (by kernel_rfl) (by kernel_rfl) (by kernel_rfl) (by kernel_rfl) (by kernel_rfl) (anyE_done (by kernel_rfl) ?_))))))
 clear F hQ Be0 Bp0 Bm0 Bb0 Bh0 Bt0
 refine then_normal (wp_seq (region_R (n := 8) (N := 9) (by kernel_rfl) (by kernel_rfl) (by kernel_rfl) (by kernel_rfl) (by kernel_rfl) (by kernel_rfl) (fun _ _ _ _ _ h => h) ?_))
 intro F hQ
 have Be0 := Be
 have Bp0 := Bp
 have Bm0 := Bm
 have Bb0 := Bb
 have Bh0 := Bh
 have Bt0 := Bt
 refine anyR_ldvec (i := 1) (m' := 2) Be0.out F hQ rfl rfl (by kernel_rfl) (by kernel_rfl) (by kernel_rfl) (by kernel_rfl) (by kernel_rfl) rfl (by kernel_rfl) ?_
 refine zac (i := 0) (m' := 3) rfl rfl ((vsof_any ⟨#[49, 49, 48, 49]⟩ _ (by decide)).mono ?_)
 rintro e w20 ⟨l1, s1, A1, c1, E1, rfl, C1, O1, hb⟩
 refine ⟨_, rfl, hb, ?_⟩
 replace hb : Below w19.heap.size w19 w20 := Below.trans ((Below.refl _ _).drew) hb
 replace Oe := zQ Oe hb
 replace Op := zQ Op hb
 replace Om := zQ Om hb
 replace Ob := zQ Ob hb
 replace Oh := zQ Oh hb
 replace Ot := zQ Ot hb
 replace Be := zX Be hb
 replace Bp := zX Bp hb
 replace Bm := zX Bm hb
 replace Bb := zX Bb hb
 replace Bh := zX Bh hb
 replace Bt := zX Bt hb
 replace O1 := hide O1.out.rd
 replace hU := zU hU hU.size hb
 clear hb
 have G1 := zGd E1 (gd_of (by decide +kernel))
 have L1 := zLe G1
 have Y1 := hide G1.by_
 clear G1
 refine zac (i := 2) (m' := 7) rfl rfl ((vAdd_any A1 Ae l1 le c1 ce s1 se _ L1.out Le.out C1 Ce O1.out Oe.out Y1.out Ye.out).mono ?_)
 rintro e w21 ⟨l2, s2, A2, c2, E2, rfl, C2, O2, hb⟩
 refine ⟨_, rfl, hb, ?_⟩
 replace Oe := zQ Oe hb
 replace Op := zQ Op hb
 replace Om := zQ Om hb
 replace Ob := zQ Ob hb
 replace Oh := zQ Oh hb
 replace Ot := zQ Ot hb
 replace O1 := zQ O1 hb
 replace Be := zX Be hb
 replace Bp := zX Bp hb
 replace Bm := zX Bm hb
 replace Bb := zX Bb hb
 replace Bh := zX Bh hb
 replace Bt := zX Bt hb
 replace O2 := hide O2.out.rd
 replace hU := zU hU hU.size hb
 clear hb
 have G2 := zGd E2 ((by rw [E1.out, Ee.out]; exact gd_of (by decide +kernel)))
 have L2 := zLe G2
 have Y2 := hide G2.by_
 clear G2
 replace E2 := hide (show (⟨l2, s2⟩ : Vc) = vAdd ⟨ofB ⟨#[49, 49, 48, 49]⟩, true⟩ ⟨fb (vz 8 5), true⟩ from E2.out.trans (by rw [E1.out, Ee.out]))
 clear O1 C1 L1 Y1
 refine zac (i := 3) (m' := 15) rfl rfl ((vint_val (2) A2 l2 c2 s2 _ L2.out C2 O2.out Y2.out (by rw [E2.out]; decide +kernel) (by rw [E2.out]; decide +kernel) (by decide) (by decide)).mono ?_)
 rintro e w22 ⟨rfl, hb⟩
 refine ⟨_, rfl, hb, ?_⟩
 replace Oe := zQ Oe hb
 replace Op := zQ Op hb
 replace Om := zQ Om hb
 replace Ob := zQ Ob hb
 replace Oh := zQ Oh hb
 replace Ot := zQ Ot hb
 replace O2 := zQ O2 hb
 replace Be := zX Be hb
 replace Bp := zX Bp hb
 replace Bm := zX Bm hb
 replace Bb := zX Bb hb
 replace Bh := zX Bh hb
 replace Bt := zX Bt hb
 replace hU := zU hU hU.size hb
 clear hb O2 C2 L2 Y2
 refine zav (i := 4) (m' := 31) (v := .tuple #[.int .i64 2, .bool true]) F hQ rfl rfl (zav (i := 5) (m' := 63) (v := .int .i64 2) F hQ rfl rfl (zav (i := 6) (m' := 127) (v := .bool true) F hQ rfl rfl (zav (i := 7) (m' := 255) (v := .int .i64 2) F hQ rfl rfl (anyR_e (anyR_last (i := 8) (m' := 511) (v := .bool true) rfl rfl (by kernel_rfl) (by kernel_rfl) (by kernel_rfl) (by kernel_rfl) (by kernel_rfl) (anyE_done (by kernel_rfl) ?_))))))
 clear F hQ Be0 Bp0 Bm0 Bb0 Bh0 Bt0
 refine then_normal (zs (zv Bb.out rfl rfl (zv Bm.out rfl rfl ?_)))
 refine zc rfl ((vPow_any Ab Am lb lm cb cm sb sm _ Lb.out Lm.out Cb Cm Ob.out Om.out Yb.out Ym.out (HT.out.kept hU)).mono ?_)
 rintro e w23 ⟨l1, s1, A1, c1, E1, rfl, C1, O1, hb⟩
 refine ⟨_, rfl, ?_⟩
 replace Oe := zQ Oe hb
 replace Op := zQ Op hb
 replace Om := zQ Om hb
 replace Ob := zQ Ob hb
 replace Oh := zQ Oh hb
 replace Ot := zQ Ot hb
 replace Be := zX Be hb
 replace Bp := zX Bp hb
 replace Bm := zX Bm hb
 replace Bb := zX Bb hb
 replace Bh := zX Bh hb
 replace Bt := zX Bt hb
 replace O1 := hide O1.out.rd
 replace hU := zU hU hU.size hb
 clear hb
 have G1 := zGd E1 ((by rw [Eb.out, Em.out]; exact gd_of (by decide +kernel)))
 have L1 := zLe G1
 have Y1 := hide G1.by_
 clear G1
 replace E1 := hide (show (⟨l1, s1⟩ : Vc) = vPow ⟨fb (vz 32 2), true⟩ ⟨fb (vz 32 (-1)), true⟩ from E1.out.trans (by rw [Eb.out, Em.out]))
 refine zc rfl ((vint_val (0) A1 l1 c1 s1 _ L1.out C1 O1.out Y1.out (by rw [E1.out]; decide +kernel) (by rw [E1.out]; decide +kernel) (by decide) (by decide)).mono ?_)
 rintro e w24 ⟨rfl, hb⟩
 refine ⟨_, rfl, ?_⟩
 replace Oe := zQ Oe hb
 replace Op := zQ Op hb
 replace Om := zQ Om hb
 replace Ob := zQ Ob hb
 replace Oh := zQ Oh hb
 replace Ot := zQ Ot hb
 replace O1 := zQ O1 hb
 replace Be := zX Be hb
 replace Bp := zX Bp hb
 replace Bm := zX Bm hb
 replace Bb := zX Bb hb
 replace Bh := zX Bh hb
 replace Bt := zX Bt hb
 replace hU := zU hU hU.size hb
 clear hb O1 C1 L1 Y1
 refine z5 [(19, z_t), (18, .int .i64 0), (90, z_t), (89, .int .i64 0), (84, .tuple #[.int .i64 0, .bool true])] (ze (wp_seq (zs (wpl_r16 [(106, z_t), (105, z_f), (104, z_f), (103, z_f), (102, .int .i64 2), (101, z_f), (100, z_f), (99, z_f), (98, z_t), (97, z_f), (96, z_f), (95, z_f), (94, .int .i64 18), (93, z_f), (92, z_f), (91, z_t)] (by kernel_rfl) (z6 [(112, z_f), (111, z_f), (110, .int .i64 0), (109, z_f), (108, z_f), (107, z_f)] ?_)))))
 refine ze (zif (wp_skip (then_normal (wp_seq (region_R (n := 83) (N := 84) (by kernel_rfl) (by kernel_rfl) (by kernel_rfl) (by kernel_rfl) (by kernel_rfl) (by kernel_rfl) (fun _ _ _ _ _ h => h) ?_)))))
 intro F hQ
 have Be0 := Be
 have Bp0 := Bp
 have Bm0 := Bm
 have Bb0 := Bb
 have Bh0 := Bh
 have Bt0 := Bt
 refine zav (i := 0) (m' := 1) (v := .func (.func 16) #[] #[]) F hQ rfl rfl ?_
 refine zac (i := 1) (m' := 3) rfl rfl ((vof_any ⟨#[49, 120, 48, 48]⟩ _ (by decide)).mono ?_)
 rintro e w25 ⟨l1, s1, A1, c1, E1, rfl, C1, O1, hb⟩
 refine ⟨_, rfl, hb, ?_⟩
 replace hb : Below w24.heap.size w24 w25 := Below.trans ((Below.refl _ _).drew) hb
 replace Oe := zQ Oe hb
 replace Op := zQ Op hb
 replace Om := zQ Om hb
 replace Ob := zQ Ob hb
 replace Oh := zQ Oh hb
 replace Ot := zQ Ot hb
 replace Be := zX Be hb
 replace Bp := zX Bp hb
 replace Bm := zX Bm hb
 replace Bb := zX Bb hb
 replace Bh := zX Bh hb
 replace Bt := zX Bt hb
 replace O1 := hide O1.out.rd
 replace hU := zU hU hU.size hb
 clear hb
 have G1 := zGd E1 (gd_of (by decide +kernel))
 have L1 := zLe G1
 have Y1 := hide G1.by_
 clear G1
 refine zac (i := 2) (m' := 7) rfl rfl ((vof_any ⟨#[48, 49, 49, 48]⟩ _ (by decide)).mono ?_)
 rintro e w26 ⟨l2, s2, A2, c2, E2, rfl, C2, O2, hb⟩
 refine ⟨_, rfl, hb, ?_⟩
 replace Oe := zQ Oe hb
 replace Op := zQ Op hb
 replace Om := zQ Om hb
 replace Ob := zQ Ob hb
 replace Oh := zQ Oh hb
 replace Ot := zQ Ot hb
 replace O1 := zQ O1 hb
 replace Be := zX Be hb
 replace Bp := zX Bp hb
 replace Bm := zX Bm hb
 replace Bb := zX Bb hb
 replace Bh := zX Bh hb
 replace Bt := zX Bt hb
 replace O2 := hide O2.out.rd
 replace hU := zU hU hU.size hb
 clear hb
 have G2 := zGd E2 (gd_of (by decide +kernel))
 have L2 := zLe G2
 have Y2 := hide G2.by_
 clear G2
 refine zac (i := 3) (m' := 15) rfl rfl ((vAnd_any A1 A2 l1 l2 c1 c2 s1 s2 _ L1.out L2.out C1 C2 O1.out O2.out Y1.out Y2.out (HT.out.kept hU)).mono ?_)
 rintro e w27 ⟨l3, s3, A3, c3, E3, rfl, C3, O3, hb⟩
 refine ⟨_, rfl, hb, ?_⟩
 replace Oe := zQ Oe hb
 replace Op := zQ Op hb
 replace Om := zQ Om hb
 replace Ob := zQ Ob hb
 replace Oh := zQ Oh hb
 replace Ot := zQ Ot hb
 replace O1 := zQ O1 hb
 replace O2 := zQ O2 hb
 replace Be := zX Be hb
 replace Bp := zX Bp hb
 replace Bm := zX Bm hb
 replace Bb := zX Bb hb
 replace Bh := zX Bh hb
 replace Bt := zX Bt hb
 replace O3 := hide O3.out.rd
 replace hU := zU hU hU.size hb
 clear hb
 have G3 := zGd E3 ((by rw [E1.out, E2.out]; exact gd_of (by decide +kernel)))
 have L3 := zLe G3
 have Y3 := hide G3.by_
 clear G3
 replace E3 := hide (show (⟨l3, s3⟩ : Vc) = btw mAnd ⟨ofB ⟨#[49, 120, 48, 48]⟩, false⟩ ⟨ofB ⟨#[48, 49, 49, 48]⟩, false⟩ from E3.out.trans (by rw [E1.out, E2.out]))
 clear O1 C1 L1 Y1 O2 C2 L2 Y2
 refine zac (i := 4) (m' := 31) rfl rfl ((vof_any ⟨#[48, 120, 48, 48]⟩ _ (by decide)).mono ?_)
 rintro e w28 ⟨l4, s4, A4, c4, E4, rfl, C4, O4, hb⟩
 refine ⟨_, rfl, hb, ?_⟩
 replace Oe := zQ Oe hb
 replace Op := zQ Op hb
 replace Om := zQ Om hb
 replace Ob := zQ Ob hb
 replace Oh := zQ Oh hb
 replace Ot := zQ Ot hb
 replace O3 := zQ O3 hb
 replace Be := zX Be hb
 replace Bp := zX Bp hb
 replace Bm := zX Bm hb
 replace Bb := zX Bb hb
 replace Bh := zX Bh hb
 replace Bt := zX Bt hb
 replace O4 := hide O4.out.rd
 replace hU := zU hU hU.size hb
 clear hb
 have G4 := zGd E4 (gd_of (by decide +kernel))
 have L4 := zLe G4
 have Y4 := hide G4.by_
 clear G4
 refine zac (i := 5) (m' := 63) rfl rfl ((rsame_yes A3 A4 l3 l4 c3 c4 s3 s4 _ L3.out L4.out O3.out O4.out (by rw [E3.out, E4.out]; exact (sm_iff _ _).1 (by decide +kernel))).mono ?_)
 rintro e w29 ⟨rfl, hb⟩
 refine ⟨_, rfl, hb, ?_⟩
 replace Oe := zQ Oe hb
 replace Op := zQ Op hb
 replace Om := zQ Om hb
 replace Ob := zQ Ob hb
 replace Oh := zQ Oh hb
 replace Ot := zQ Ot hb
 replace O3 := zQ O3 hb
 replace O4 := zQ O4 hb
 replace Be := zX Be hb
 replace Bp := zX Bp hb
 replace Bm := zX Bm hb
 replace Bb := zX Bb hb
 replace Bh := zX Bh hb
 replace Bt := zX Bt hb
 replace hU := zU hU hU.size hb
 clear hb O3 C3 L3 Y3
 clear O4 C4 L4 Y4
 refine zav (i := 6) (m' := 127) (v := .bool true) F hQ rfl rfl (zav (i := 7) (m' := 255) (v := .func (.func 16) #[] #[]) F hQ rfl rfl ?_)
 refine zac (i := 8) (m' := 511) rfl rfl ((vof_any ⟨#[49, 49, 48, 48]⟩ _ (by decide)).mono ?_)
 rintro e w30 ⟨l1, s1, A1, c1, E1, rfl, C1, O1, hb⟩
 refine ⟨_, rfl, hb, ?_⟩
 replace Oe := zQ Oe hb
 replace Op := zQ Op hb
 replace Om := zQ Om hb
 replace Ob := zQ Ob hb
 replace Oh := zQ Oh hb
 replace Ot := zQ Ot hb
 replace Be := zX Be hb
 replace Bp := zX Bp hb
 replace Bm := zX Bm hb
 replace Bb := zX Bb hb
 replace Bh := zX Bh hb
 replace Bt := zX Bt hb
 replace O1 := hide O1.out.rd
 replace hU := zU hU hU.size hb
 clear hb
 have G1 := zGd E1 (gd_of (by decide +kernel))
 have L1 := zLe G1
 have Y1 := hide G1.by_
 clear G1
 refine zac (i := 9) (m' := 1023) rfl rfl ((vof_any ⟨#[48, 49, 48, 49]⟩ _ (by decide)).mono ?_)
 rintro e w31 ⟨l2, s2, A2, c2, E2, rfl, C2, O2, hb⟩
 refine ⟨_, rfl, hb, ?_⟩
 replace Oe := zQ Oe hb
 replace Op := zQ Op hb
 replace Om := zQ Om hb
 replace Ob := zQ Ob hb
 replace Oh := zQ Oh hb
 replace Ot := zQ Ot hb
 replace O1 := zQ O1 hb
 replace Be := zX Be hb
 replace Bp := zX Bp hb
 replace Bm := zX Bm hb
 replace Bb := zX Bb hb
 replace Bh := zX Bh hb
 replace Bt := zX Bt hb
 replace O2 := hide O2.out.rd
 replace hU := zU hU hU.size hb
 clear hb
 have G2 := zGd E2 (gd_of (by decide +kernel))
 have L2 := zLe G2
 have Y2 := hide G2.by_
 clear G2
 refine zac (i := 10) (m' := 2047) rfl rfl ((vAdd_any A1 A2 l1 l2 c1 c2 s1 s2 _ L1.out L2.out C1 C2 O1.out O2.out Y1.out Y2.out).mono ?_)
 rintro e w32 ⟨l3, s3, A3, c3, E3, rfl, C3, O3, hb⟩
 refine ⟨_, rfl, hb, ?_⟩
 replace Oe := zQ Oe hb
 replace Op := zQ Op hb
 replace Om := zQ Om hb
 replace Ob := zQ Ob hb
 replace Oh := zQ Oh hb
 replace Ot := zQ Ot hb
 replace O1 := zQ O1 hb
 replace O2 := zQ O2 hb
 replace Be := zX Be hb
 replace Bp := zX Bp hb
 replace Bm := zX Bm hb
 replace Bb := zX Bb hb
 replace Bh := zX Bh hb
 replace Bt := zX Bt hb
 replace O3 := hide O3.out.rd
 replace hU := zU hU hU.size hb
 clear hb
 have G3 := zGd E3 ((by rw [E1.out, E2.out]; exact gd_of (by decide +kernel)))
 have L3 := zLe G3
 have Y3 := hide G3.by_
 clear G3
 replace E3 := hide (show (⟨l3, s3⟩ : Vc) = vAdd ⟨ofB ⟨#[49, 49, 48, 48]⟩, false⟩ ⟨ofB ⟨#[48, 49, 48, 49]⟩, false⟩ from E3.out.trans (by rw [E1.out, E2.out]))
 clear O1 C1 L1 Y1 O2 C2 L2 Y2
 refine zac (i := 11) (m' := 4095) rfl rfl ((vof_any ⟨#[48, 48, 48, 49]⟩ _ (by decide)).mono ?_)
 rintro e w33 ⟨l4, s4, A4, c4, E4, rfl, C4, O4, hb⟩
 refine ⟨_, rfl, hb, ?_⟩
 replace Oe := zQ Oe hb
 replace Op := zQ Op hb
 replace Om := zQ Om hb
 replace Ob := zQ Ob hb
 replace Oh := zQ Oh hb
 replace Ot := zQ Ot hb
 replace O3 := zQ O3 hb
 replace Be := zX Be hb
 replace Bp := zX Bp hb
 replace Bm := zX Bm hb
 replace Bb := zX Bb hb
 replace Bh := zX Bh hb
 replace Bt := zX Bt hb
 replace O4 := hide O4.out.rd
 replace hU := zU hU hU.size hb
 clear hb
 have G4 := zGd E4 (gd_of (by decide +kernel))
 have L4 := zLe G4
 have Y4 := hide G4.by_
 clear G4
 refine zac (i := 12) (m' := 8191) rfl rfl ((rsame_yes A3 A4 l3 l4 c3 c4 s3 s4 _ L3.out L4.out O3.out O4.out (by rw [E3.out, E4.out]; exact (sm_iff _ _).1 (by decide +kernel))).mono ?_)
 rintro e w34 ⟨rfl, hb⟩
 refine ⟨_, rfl, hb, ?_⟩
 replace Oe := zQ Oe hb
 replace Op := zQ Op hb
 replace Om := zQ Om hb
 replace Ob := zQ Ob hb
 replace Oh := zQ Oh hb
 replace Ot := zQ Ot hb
 replace O3 := zQ O3 hb
 replace O4 := zQ O4 hb
 replace Be := zX Be hb
 replace Bp := zX Bp hb
 replace Bm := zX Bm hb
 replace Bb := zX Bb hb
 replace Bh := zX Bh hb
 replace Bt := zX Bt hb
 replace hU := zU hU hU.size hb
 clear hb O3 C3 L3 Y3
 clear O4 C4 L4 Y4
 refine zav (i := 13) (m' := 16383) (v := .bool true) F hQ rfl rfl (zav (i := 14) (m' := 32767) (v := .bool true) F hQ rfl rfl (zav (i := 15) (m' := 65535) (v := .func (.func 16) #[] #[]) F hQ rfl rfl ?_))
 refine zac (i := 16) (m' := 131071) rfl rfl ((vof_any ⟨#[49, 120, 48, 48]⟩ _ (by decide)).mono ?_)
 rintro e w35 ⟨l1, s1, A1, c1, E1, rfl, C1, O1, hb⟩
 refine ⟨_, rfl, hb, ?_⟩
 replace Oe := zQ Oe hb
 replace Op := zQ Op hb
 replace Om := zQ Om hb
 replace Ob := zQ Ob hb
 replace Oh := zQ Oh hb
 replace Ot := zQ Ot hb
 replace Be := zX Be hb
 replace Bp := zX Bp hb
 replace Bm := zX Bm hb
 replace Bb := zX Bb hb
 replace Bh := zX Bh hb
 replace Bt := zX Bt hb
 replace O1 := hide O1.out.rd
 replace hU := zU hU hU.size hb
 clear hb
 have G1 := zGd E1 (gd_of (by decide +kernel))
 have L1 := zLe G1
 have Y1 := hide G1.by_
 clear G1
 refine zac (i := 17) (m' := 262143) rfl rfl ((vof_any ⟨#[48, 48, 48, 49]⟩ _ (by decide)).mono ?_)
 rintro e w36 ⟨l2, s2, A2, c2, E2, rfl, C2, O2, hb⟩
 refine ⟨_, rfl, hb, ?_⟩
 replace Oe := zQ Oe hb
 replace Op := zQ Op hb
 replace Om := zQ Om hb
 replace Ob := zQ Ob hb
 replace Oh := zQ Oh hb
 replace Ot := zQ Ot hb
 replace O1 := zQ O1 hb
 replace Be := zX Be hb
 replace Bp := zX Bp hb
 replace Bm := zX Bm hb
 replace Bb := zX Bb hb
 replace Bh := zX Bh hb
 replace Bt := zX Bt hb
 replace O2 := hide O2.out.rd
 replace hU := zU hU hU.size hb
 clear hb
 have G2 := zGd E2 (gd_of (by decide +kernel))
 have L2 := zLe G2
 have Y2 := hide G2.by_
 clear G2
 refine zac (i := 18) (m' := 524287) rfl rfl ((vAdd_any A1 A2 l1 l2 c1 c2 s1 s2 _ L1.out L2.out C1 C2 O1.out O2.out Y1.out Y2.out).mono ?_)
 rintro e w37 ⟨l3, s3, A3, c3, E3, rfl, C3, O3, hb⟩
 refine ⟨_, rfl, hb, ?_⟩
 replace Oe := zQ Oe hb
 replace Op := zQ Op hb
 replace Om := zQ Om hb
 replace Ob := zQ Ob hb
 replace Oh := zQ Oh hb
 replace Ot := zQ Ot hb
 replace O1 := zQ O1 hb
 replace O2 := zQ O2 hb
 replace Be := zX Be hb
 replace Bp := zX Bp hb
 replace Bm := zX Bm hb
 replace Bb := zX Bb hb
 replace Bh := zX Bh hb
 replace Bt := zX Bt hb
 replace O3 := hide O3.out.rd
 replace hU := zU hU hU.size hb
 clear hb
 have G3 := zGd E3 ((by rw [E1.out, E2.out]; exact gd_of (by decide +kernel)))
 have L3 := zLe G3
 have Y3 := hide G3.by_
 clear G3
 replace E3 := hide (show (⟨l3, s3⟩ : Vc) = vAdd ⟨ofB ⟨#[49, 120, 48, 48]⟩, false⟩ ⟨ofB ⟨#[48, 48, 48, 49]⟩, false⟩ from E3.out.trans (by rw [E1.out, E2.out]))
 clear O1 C1 L1 Y1 O2 C2 L2 Y2
 refine zac (i := 19) (m' := 1048575) rfl rfl ((vof_any ⟨#[120, 120, 120, 120]⟩ _ (by decide)).mono ?_)
 rintro e w38 ⟨l4, s4, A4, c4, E4, rfl, C4, O4, hb⟩
 refine ⟨_, rfl, hb, ?_⟩
 replace Oe := zQ Oe hb
 replace Op := zQ Op hb
 replace Om := zQ Om hb
 replace Ob := zQ Ob hb
 replace Oh := zQ Oh hb
 replace Ot := zQ Ot hb
 replace O3 := zQ O3 hb
 replace Be := zX Be hb
 replace Bp := zX Bp hb
 replace Bm := zX Bm hb
 replace Bb := zX Bb hb
 replace Bh := zX Bh hb
 replace Bt := zX Bt hb
 replace O4 := hide O4.out.rd
 replace hU := zU hU hU.size hb
 clear hb
 have G4 := zGd E4 (gd_of (by decide +kernel))
 have L4 := zLe G4
 have Y4 := hide G4.by_
 clear G4
 refine zac (i := 20) (m' := 2097151) rfl rfl ((rsame_yes A3 A4 l3 l4 c3 c4 s3 s4 _ L3.out L4.out O3.out O4.out (by rw [E3.out, E4.out]; exact (sm_iff _ _).1 (by decide +kernel))).mono ?_)
 rintro e w39 ⟨rfl, hb⟩
 refine ⟨_, rfl, hb, ?_⟩
 replace Oe := zQ Oe hb
 replace Op := zQ Op hb
 replace Om := zQ Om hb
 replace Ob := zQ Ob hb
 replace Oh := zQ Oh hb
 replace Ot := zQ Ot hb
 replace O3 := zQ O3 hb
 replace O4 := zQ O4 hb
 replace Be := zX Be hb
 replace Bp := zX Bp hb
 replace Bm := zX Bm hb
 replace Bb := zX Bb hb
 replace Bh := zX Bh hb
 replace Bt := zX Bt hb
 replace hU := zU hU hU.size hb
 clear hb O3 C3 L3 Y3
 clear O4 C4 L4 Y4
 refine zav (i := 21) (m' := 4194303) (v := .bool true) F hQ rfl rfl (zav (i := 22) (m' := 8388607) (v := .bool true) F hQ rfl rfl (zav (i := 23) (m' := 16777215) (v := .func (.func 16) #[] #[]) F hQ rfl rfl ?_))
 refine zac (i := 24) (m' := 33554431) rfl rfl ((vof_any ⟨#[49, 48, 120, 48]⟩ _ (by decide)).mono ?_)
 rintro e w40 ⟨l1, s1, A1, c1, E1, rfl, C1, O1, hb⟩
 refine ⟨_, rfl, hb, ?_⟩
 replace Oe := zQ Oe hb
 replace Op := zQ Op hb
 replace Om := zQ Om hb
 replace Ob := zQ Ob hb
 replace Oh := zQ Oh hb
 replace Ot := zQ Ot hb
 replace Be := zX Be hb
 replace Bp := zX Bp hb
 replace Bm := zX Bm hb
 replace Bb := zX Bb hb
 replace Bh := zX Bh hb
 replace Bt := zX Bt hb
 replace O1 := hide O1.out.rd
 replace hU := zU hU hU.size hb
 clear hb
 have G1 := zGd E1 (gd_of (by decide +kernel))
 have L1 := zLe G1
 have Y1 := hide G1.by_
 clear G1
 refine zac (i := 25) (m' := 67108863) rfl rfl ((vof_any ⟨#[48, 48, 48, 48]⟩ _ (by decide)).mono ?_)
 rintro e w41 ⟨l2, s2, A2, c2, E2, rfl, C2, O2, hb⟩
 refine ⟨_, rfl, hb, ?_⟩
 replace Oe := zQ Oe hb
 replace Op := zQ Op hb
 replace Om := zQ Om hb
 replace Ob := zQ Ob hb
 replace Oh := zQ Oh hb
 replace Ot := zQ Ot hb
 replace O1 := zQ O1 hb
 replace Be := zX Be hb
 replace Bp := zX Bp hb
 replace Bm := zX Bm hb
 replace Bb := zX Bb hb
 replace Bh := zX Bh hb
 replace Bt := zX Bt hb
 replace O2 := hide O2.out.rd
 replace hU := zU hU hU.size hb
 clear hb
 have G2 := zGd E2 (gd_of (by decide +kernel))
 have L2 := zLe G2
 have Y2 := hide G2.by_
 clear G2
 refine zac (i := 26) (m' := 134217727) rfl rfl ((vEq_any A1 A2 l1 l2 c1 c2 s1 s2 _ L1.out L2.out C1 C2 O1.out O2.out Y1.out Y2.out (HT.out.kept hU)).mono ?_)
 rintro e w42 ⟨l3, s3, A3, c3, E3, rfl, C3, O3, hb⟩
 refine ⟨_, rfl, hb, ?_⟩
 replace Oe := zQ Oe hb
 replace Op := zQ Op hb
 replace Om := zQ Om hb
 replace Ob := zQ Ob hb
 replace Oh := zQ Oh hb
 replace Ot := zQ Ot hb
 replace O1 := zQ O1 hb
 replace O2 := zQ O2 hb
 replace Be := zX Be hb
 replace Bp := zX Bp hb
 replace Bm := zX Bm hb
 replace Bb := zX Bb hb
 replace Bh := zX Bh hb
 replace Bt := zX Bt hb
 replace O3 := hide O3.out.rd
 replace hU := zU hU hU.size hb
 clear hb
 have G3 := zGd E3 ((by rw [E1.out, E2.out]; exact gd_of (by decide +kernel)))
 have L3 := zLe G3
 have Y3 := hide G3.by_
 clear G3
 replace E3 := hide (show (⟨l3, s3⟩ : Vc) = vEq ⟨ofB ⟨#[49, 48, 120, 48]⟩, false⟩ ⟨ofB ⟨#[48, 48, 48, 48]⟩, false⟩ from E3.out.trans (by rw [E1.out, E2.out]))
 clear O1 C1 L1 Y1 O2 C2 L2 Y2
 refine zac (i := 27) (m' := 268435455) rfl rfl ((vof_any ⟨#[48]⟩ _ (by decide)).mono ?_)
 rintro e w43 ⟨l4, s4, A4, c4, E4, rfl, C4, O4, hb⟩
 refine ⟨_, rfl, hb, ?_⟩
 replace Oe := zQ Oe hb
 replace Op := zQ Op hb
 replace Om := zQ Om hb
 replace Ob := zQ Ob hb
 replace Oh := zQ Oh hb
 replace Ot := zQ Ot hb
 replace O3 := zQ O3 hb
 replace Be := zX Be hb
 replace Bp := zX Bp hb
 replace Bm := zX Bm hb
 replace Bb := zX Bb hb
 replace Bh := zX Bh hb
 replace Bt := zX Bt hb
 replace O4 := hide O4.out.rd
 replace hU := zU hU hU.size hb
 clear hb
 have G4 := zGd E4 (gd_of (by decide +kernel))
 have L4 := zLe G4
 have Y4 := hide G4.by_
 clear G4
 refine zac (i := 28) (m' := 536870911) rfl rfl ((rsame_yes A3 A4 l3 l4 c3 c4 s3 s4 _ L3.out L4.out O3.out O4.out (by rw [E3.out, E4.out]; exact (sm_iff _ _).1 (by decide +kernel))).mono ?_)
 rintro e w44 ⟨rfl, hb⟩
 refine ⟨_, rfl, hb, ?_⟩
 replace Oe := zQ Oe hb
 replace Op := zQ Op hb
 replace Om := zQ Om hb
 replace Ob := zQ Ob hb
 replace Oh := zQ Oh hb
 replace Ot := zQ Ot hb
 replace O3 := zQ O3 hb
 replace O4 := zQ O4 hb
 replace Be := zX Be hb
 replace Bp := zX Bp hb
 replace Bm := zX Bm hb
 replace Bb := zX Bb hb
 replace Bh := zX Bh hb
 replace Bt := zX Bt hb
 replace hU := zU hU hU.size hb
 clear hb O3 C3 L3 Y3
 clear O4 C4 L4 Y4
 refine zav (i := 29) (m' := 1073741823) (v := .bool true) F hQ rfl rfl (zav (i := 30) (m' := 2147483647) (v := .bool true) F hQ rfl rfl (zav (i := 31) (m' := 4294967295) (v := .func (.func 16) #[] #[]) F hQ rfl rfl ?_))
 refine zac (i := 32) (m' := 8589934591) rfl rfl ((vof_any ⟨#[48, 48, 120, 48]⟩ _ (by decide)).mono ?_)
 rintro e w45 ⟨l1, s1, A1, c1, E1, rfl, C1, O1, hb⟩
 refine ⟨_, rfl, hb, ?_⟩
 replace Oe := zQ Oe hb
 replace Op := zQ Op hb
 replace Om := zQ Om hb
 replace Ob := zQ Ob hb
 replace Oh := zQ Oh hb
 replace Ot := zQ Ot hb
 replace Be := zX Be hb
 replace Bp := zX Bp hb
 replace Bm := zX Bm hb
 replace Bb := zX Bb hb
 replace Bh := zX Bh hb
 replace Bt := zX Bt hb
 replace O1 := hide O1.out.rd
 replace hU := zU hU hU.size hb
 clear hb
 have G1 := zGd E1 (gd_of (by decide +kernel))
 have L1 := zLe G1
 have Y1 := hide G1.by_
 clear G1
 refine zac (i := 33) (m' := 17179869183) rfl rfl ((vof_any ⟨#[48, 48, 48, 48]⟩ _ (by decide)).mono ?_)
 rintro e w46 ⟨l2, s2, A2, c2, E2, rfl, C2, O2, hb⟩
 refine ⟨_, rfl, hb, ?_⟩
 replace Oe := zQ Oe hb
 replace Op := zQ Op hb
 replace Om := zQ Om hb
 replace Ob := zQ Ob hb
 replace Oh := zQ Oh hb
 replace Ot := zQ Ot hb
 replace O1 := zQ O1 hb
 replace Be := zX Be hb
 replace Bp := zX Bp hb
 replace Bm := zX Bm hb
 replace Bb := zX Bb hb
 replace Bh := zX Bh hb
 replace Bt := zX Bt hb
 replace O2 := hide O2.out.rd
 replace hU := zU hU hU.size hb
 clear hb
 have G2 := zGd E2 (gd_of (by decide +kernel))
 have L2 := zLe G2
 have Y2 := hide G2.by_
 clear G2
 refine zac (i := 34) (m' := 34359738367) rfl rfl ((vEq_any A1 A2 l1 l2 c1 c2 s1 s2 _ L1.out L2.out C1 C2 O1.out O2.out Y1.out Y2.out (HT.out.kept hU)).mono ?_)
 rintro e w47 ⟨l3, s3, A3, c3, E3, rfl, C3, O3, hb⟩
 refine ⟨_, rfl, hb, ?_⟩
 replace Oe := zQ Oe hb
 replace Op := zQ Op hb
 replace Om := zQ Om hb
 replace Ob := zQ Ob hb
 replace Oh := zQ Oh hb
 replace Ot := zQ Ot hb
 replace O1 := zQ O1 hb
 replace O2 := zQ O2 hb
 replace Be := zX Be hb
 replace Bp := zX Bp hb
 replace Bm := zX Bm hb
 replace Bb := zX Bb hb
 replace Bh := zX Bh hb
 replace Bt := zX Bt hb
 replace O3 := hide O3.out.rd
 replace hU := zU hU hU.size hb
 clear hb
 have G3 := zGd E3 ((by rw [E1.out, E2.out]; exact gd_of (by decide +kernel)))
 have L3 := zLe G3
 have Y3 := hide G3.by_
 clear G3
 replace E3 := hide (show (⟨l3, s3⟩ : Vc) = vEq ⟨ofB ⟨#[48, 48, 120, 48]⟩, false⟩ ⟨ofB ⟨#[48, 48, 48, 48]⟩, false⟩ from E3.out.trans (by rw [E1.out, E2.out]))
 clear O1 C1 L1 Y1 O2 C2 L2 Y2
 refine zac (i := 35) (m' := 68719476735) rfl rfl ((vof_any ⟨#[120]⟩ _ (by decide)).mono ?_)
 rintro e w48 ⟨l4, s4, A4, c4, E4, rfl, C4, O4, hb⟩
 refine ⟨_, rfl, hb, ?_⟩
 replace Oe := zQ Oe hb
 replace Op := zQ Op hb
 replace Om := zQ Om hb
 replace Ob := zQ Ob hb
 replace Oh := zQ Oh hb
 replace Ot := zQ Ot hb
 replace O3 := zQ O3 hb
 replace Be := zX Be hb
 replace Bp := zX Bp hb
 replace Bm := zX Bm hb
 replace Bb := zX Bb hb
 replace Bh := zX Bh hb
 replace Bt := zX Bt hb
 replace O4 := hide O4.out.rd
 replace hU := zU hU hU.size hb
 clear hb
 have G4 := zGd E4 (gd_of (by decide +kernel))
 have L4 := zLe G4
 have Y4 := hide G4.by_
 clear G4
 refine zac (i := 36) (m' := 137438953471) rfl rfl ((rsame_yes A3 A4 l3 l4 c3 c4 s3 s4 _ L3.out L4.out O3.out O4.out (by rw [E3.out, E4.out]; exact (sm_iff _ _).1 (by decide +kernel))).mono ?_)
 rintro e w49 ⟨rfl, hb⟩
 refine ⟨_, rfl, hb, ?_⟩
 replace Oe := zQ Oe hb
 replace Op := zQ Op hb
 replace Om := zQ Om hb
 replace Ob := zQ Ob hb
 replace Oh := zQ Oh hb
 replace Ot := zQ Ot hb
 replace O3 := zQ O3 hb
 replace O4 := zQ O4 hb
 replace Be := zX Be hb
 replace Bp := zX Bp hb
 replace Bm := zX Bm hb
 replace Bb := zX Bb hb
 replace Bh := zX Bh hb
 replace Bt := zX Bt hb
 replace hU := zU hU hU.size hb
 clear hb O3 C3 L3 Y3
 clear O4 C4 L4 Y4
 refine zav (i := 37) (m' := 274877906943) (v := .bool true) F hQ rfl rfl (zav (i := 38) (m' := 549755813887) (v := .bool true) F hQ rfl rfl (zav (i := 39) (m' := 1099511627775) (v := .func (.func 16) #[] #[]) F hQ rfl rfl ?_))
 refine zac (i := 40) (m' := 2199023255551) rfl rfl ((vof_any ⟨#[49, 120, 48, 48]⟩ _ (by decide)).mono ?_)
 rintro e w50 ⟨l1, s1, A1, c1, E1, rfl, C1, O1, hb⟩
 refine ⟨_, rfl, hb, ?_⟩
 replace Oe := zQ Oe hb
 replace Op := zQ Op hb
 replace Om := zQ Om hb
 replace Ob := zQ Ob hb
 replace Oh := zQ Oh hb
 replace Ot := zQ Ot hb
 replace Be := zX Be hb
 replace Bp := zX Bp hb
 replace Bm := zX Bm hb
 replace Bb := zX Bb hb
 replace Bh := zX Bh hb
 replace Bt := zX Bt hb
 replace O1 := hide O1.out.rd
 replace hU := zU hU hU.size hb
 clear hb
 have G1 := zGd E1 (gd_of (by decide +kernel))
 have L1 := zLe G1
 have Y1 := hide G1.by_
 clear G1
 refine zac (i := 41) (m' := 4398046511103) rfl rfl ((vof_any ⟨#[49, 120, 48, 48]⟩ _ (by decide)).mono ?_)
 rintro e w51 ⟨l2, s2, A2, c2, E2, rfl, C2, O2, hb⟩
 refine ⟨_, rfl, hb, ?_⟩
 replace Oe := zQ Oe hb
 replace Op := zQ Op hb
 replace Om := zQ Om hb
 replace Ob := zQ Ob hb
 replace Oh := zQ Oh hb
 replace Ot := zQ Ot hb
 replace O1 := zQ O1 hb
 replace Be := zX Be hb
 replace Bp := zX Bp hb
 replace Bm := zX Bm hb
 replace Bb := zX Bb hb
 replace Bh := zX Bh hb
 replace Bt := zX Bt hb
 replace O2 := hide O2.out.rd
 replace hU := zU hU hU.size hb
 clear hb
 have G2 := zGd E2 (gd_of (by decide +kernel))
 have L2 := zLe G2
 have Y2 := hide G2.by_
 clear G2
 refine zac (i := 42) (m' := 8796093022207) rfl rfl ((vCaseEq_any A1 A2 l1 l2 c1 c2 s1 s2 _ L1.out L2.out C1 C2 O1.out O2.out Y1.out Y2.out).mono ?_)
 rintro e w52 ⟨l3, s3, A3, c3, E3, rfl, C3, O3, hb⟩
 refine ⟨_, rfl, hb, ?_⟩
 replace Oe := zQ Oe hb
 replace Op := zQ Op hb
 replace Om := zQ Om hb
 replace Ob := zQ Ob hb
 replace Oh := zQ Oh hb
 replace Ot := zQ Ot hb
 replace O1 := zQ O1 hb
 replace O2 := zQ O2 hb
 replace Be := zX Be hb
 replace Bp := zX Bp hb
 replace Bm := zX Bm hb
 replace Bb := zX Bb hb
 replace Bh := zX Bh hb
 replace Bt := zX Bt hb
 replace O3 := hide O3.out.rd
 replace hU := zU hU hU.size hb
 clear hb
 have G3 := zGd E3 ((by rw [E1.out, E2.out]; exact gd_of (by decide +kernel)))
 have L3 := zLe G3
 have Y3 := hide G3.by_
 clear G3
 replace E3 := hide (show (⟨l3, s3⟩ : Vc) = vCase ⟨ofB ⟨#[49, 120, 48, 48]⟩, false⟩ ⟨ofB ⟨#[49, 120, 48, 48]⟩, false⟩ from E3.out.trans (by rw [E1.out, E2.out]))
 clear O1 C1 L1 Y1 O2 C2 L2 Y2
 refine zac (i := 43) (m' := 17592186044415) rfl rfl ((vof_any ⟨#[49]⟩ _ (by decide)).mono ?_)
 rintro e w53 ⟨l4, s4, A4, c4, E4, rfl, C4, O4, hb⟩
 refine ⟨_, rfl, hb, ?_⟩
 replace Oe := zQ Oe hb
 replace Op := zQ Op hb
 replace Om := zQ Om hb
 replace Ob := zQ Ob hb
 replace Oh := zQ Oh hb
 replace Ot := zQ Ot hb
 replace O3 := zQ O3 hb
 replace Be := zX Be hb
 replace Bp := zX Bp hb
 replace Bm := zX Bm hb
 replace Bb := zX Bb hb
 replace Bh := zX Bh hb
 replace Bt := zX Bt hb
 replace O4 := hide O4.out.rd
 replace hU := zU hU hU.size hb
 clear hb
 have G4 := zGd E4 (gd_of (by decide +kernel))
 have L4 := zLe G4
 have Y4 := hide G4.by_
 clear G4
 refine zac (i := 44) (m' := 35184372088831) rfl rfl ((rsame_yes A3 A4 l3 l4 c3 c4 s3 s4 _ L3.out L4.out O3.out O4.out (by rw [E3.out, E4.out]; exact (sm_iff _ _).1 (by decide +kernel))).mono ?_)
 rintro e w54 ⟨rfl, hb⟩
 refine ⟨_, rfl, hb, ?_⟩
 replace Oe := zQ Oe hb
 replace Op := zQ Op hb
 replace Om := zQ Om hb
 replace Ob := zQ Ob hb
 replace Oh := zQ Oh hb
 replace Ot := zQ Ot hb
 replace O3 := zQ O3 hb
 replace O4 := zQ O4 hb
 replace Be := zX Be hb
 replace Bp := zX Bp hb
 replace Bm := zX Bm hb
 replace Bb := zX Bb hb
 replace Bh := zX Bh hb
 replace Bt := zX Bt hb
 replace hU := zU hU hU.size hb
 clear hb O3 C3 L3 Y3
 clear O4 C4 L4 Y4
 refine zav (i := 45) (m' := 70368744177663) (v := .bool true) F hQ rfl rfl (zav (i := 46) (m' := 140737488355327) (v := .bool true) F hQ rfl rfl (zav (i := 47) (m' := 281474976710655) (v := .func (.func 16) #[] #[]) F hQ rfl rfl ?_))
 refine zac (i := 48) (m' := 562949953421311) rfl rfl ((vint4_any (-3) true _ (by decide) (by decide)).mono ?_)
 rintro e w55 ⟨l1, s1, A1, c1, E1, rfl, C1, O1, hb⟩
 refine ⟨_, rfl, hb, ?_⟩
 replace Oe := zQ Oe hb
 replace Op := zQ Op hb
 replace Om := zQ Om hb
 replace Ob := zQ Ob hb
 replace Oh := zQ Oh hb
 replace Ot := zQ Ot hb
 replace Be := zX Be hb
 replace Bp := zX Bp hb
 replace Bm := zX Bm hb
 replace Bb := zX Bb hb
 replace Bh := zX Bh hb
 replace Bt := zX Bt hb
 replace O1 := hide O1.out.rd
 replace hU := zU hU hU.size hb
 clear hb
 have G1 := zGd E1 (gd_of (by decide +kernel))
 have L1 := zLe G1
 have Y1 := hide G1.by_
 clear G1
 refine zac (i := 49) (m' := 1125899906842623) rfl rfl ((vint4_any 2 true _ (by decide) (by decide)).mono ?_)
 rintro e w56 ⟨l2, s2, A2, c2, E2, rfl, C2, O2, hb⟩
 refine ⟨_, rfl, hb, ?_⟩
 replace Oe := zQ Oe hb
 replace Op := zQ Op hb
 replace Om := zQ Om hb
 replace Ob := zQ Ob hb
 replace Oh := zQ Oh hb
 replace Ot := zQ Ot hb
 replace O1 := zQ O1 hb
 replace Be := zX Be hb
 replace Bp := zX Bp hb
 replace Bm := zX Bm hb
 replace Bb := zX Bb hb
 replace Bh := zX Bh hb
 replace Bt := zX Bt hb
 replace O2 := hide O2.out.rd
 replace hU := zU hU hU.size hb
 clear hb
 have G2 := zGd E2 (gd_of (by decide +kernel))
 have L2 := zLe G2
 have Y2 := hide G2.by_
 clear G2
 refine zac (i := 50) (m' := 2251799813685247) rfl rfl ((vDiv_any A1 A2 l1 l2 c1 c2 s1 s2 _ L1.out L2.out C1 C2 O1.out O2.out Y1.out Y2.out).mono ?_)
 rintro e w57 ⟨l3, s3, A3, c3, E3, rfl, C3, O3, hb⟩
 refine ⟨_, rfl, hb, ?_⟩
 replace Oe := zQ Oe hb
 replace Op := zQ Op hb
 replace Om := zQ Om hb
 replace Ob := zQ Ob hb
 replace Oh := zQ Oh hb
 replace Ot := zQ Ot hb
 replace O1 := zQ O1 hb
 replace O2 := zQ O2 hb
 replace Be := zX Be hb
 replace Bp := zX Bp hb
 replace Bm := zX Bm hb
 replace Bb := zX Bb hb
 replace Bh := zX Bh hb
 replace Bt := zX Bt hb
 replace O3 := hide O3.out.rd
 replace hU := zU hU hU.size hb
 clear hb
 have G3 := zGd E3 ((by rw [E1.out, E2.out]; exact gd_of (by decide +kernel)))
 have L3 := zLe G3
 have Y3 := hide G3.by_
 clear G3
 replace E3 := hide (show (⟨l3, s3⟩ : Vc) = vDiv ⟨fb (vz 4 (-3)), true⟩ ⟨fb (vz 4 2), true⟩ from E3.out.trans (by rw [E1.out, E2.out]))
 clear O1 C1 L1 Y1 O2 C2 L2 Y2
 refine zac (i := 51) (m' := 4503599627370495) rfl rfl ((vint4_any (-1) true _ (by decide) (by decide)).mono ?_)
 rintro e w58 ⟨l4, s4, A4, c4, E4, rfl, C4, O4, hb⟩
 refine ⟨_, rfl, hb, ?_⟩
 replace Oe := zQ Oe hb
 replace Op := zQ Op hb
 replace Om := zQ Om hb
 replace Ob := zQ Ob hb
 replace Oh := zQ Oh hb
 replace Ot := zQ Ot hb
 replace O3 := zQ O3 hb
 replace Be := zX Be hb
 replace Bp := zX Bp hb
 replace Bm := zX Bm hb
 replace Bb := zX Bb hb
 replace Bh := zX Bh hb
 replace Bt := zX Bt hb
 replace O4 := hide O4.out.rd
 replace hU := zU hU hU.size hb
 clear hb
 have G4 := zGd E4 (gd_of (by decide +kernel))
 have L4 := zLe G4
 have Y4 := hide G4.by_
 clear G4
 refine zac (i := 52) (m' := 9007199254740991) rfl rfl ((rsame_yes A3 A4 l3 l4 c3 c4 s3 s4 _ L3.out L4.out O3.out O4.out (by rw [E3.out, E4.out]; exact (sm_iff _ _).1 (by decide +kernel))).mono ?_)
 rintro e w59 ⟨rfl, hb⟩
 refine ⟨_, rfl, hb, ?_⟩
 replace Oe := zQ Oe hb
 replace Op := zQ Op hb
 replace Om := zQ Om hb
 replace Ob := zQ Ob hb
 replace Oh := zQ Oh hb
 replace Ot := zQ Ot hb
 replace O3 := zQ O3 hb
 replace O4 := zQ O4 hb
 replace Be := zX Be hb
 replace Bp := zX Bp hb
 replace Bm := zX Bm hb
 replace Bb := zX Bb hb
 replace Bh := zX Bh hb
 replace Bt := zX Bt hb
 replace hU := zU hU hU.size hb
 clear hb O3 C3 L3 Y3
 clear O4 C4 L4 Y4
 refine zav (i := 53) (m' := 18014398509481983) (v := .bool true) F hQ rfl rfl (zav (i := 54) (m' := 36028797018963967) (v := .bool true) F hQ rfl rfl (zav (i := 55) (m' := 72057594037927935) (v := .func (.func 16) #[] #[]) F hQ rfl rfl ?_))
 refine zac (i := 56) (m' := 144115188075855871) rfl rfl ((vsof_any ⟨#[49, 48, 48, 48]⟩ _ (by decide)).mono ?_)
 rintro e w60 ⟨l1, s1, A1, c1, E1, rfl, C1, O1, hb⟩
 refine ⟨_, rfl, hb, ?_⟩
 replace Oe := zQ Oe hb
 replace Op := zQ Op hb
 replace Om := zQ Om hb
 replace Ob := zQ Ob hb
 replace Oh := zQ Oh hb
 replace Ot := zQ Ot hb
 replace Be := zX Be hb
 replace Bp := zX Bp hb
 replace Bm := zX Bm hb
 replace Bb := zX Bb hb
 replace Bh := zX Bh hb
 replace Bt := zX Bt hb
 replace O1 := hide O1.out.rd
 replace hU := zU hU hU.size hb
 clear hb
 have G1 := zGd E1 (gd_of (by decide +kernel))
 have L1 := zLe G1
 have Y1 := hide G1.by_
 clear G1
 refine zac (i := 57) (m' := 288230376151711743) rfl rfl ((vof_any ⟨#[49]⟩ _ (by decide)).mono ?_)
 rintro e w61 ⟨l2, s2, A2, c2, E2, rfl, C2, O2, hb⟩
 refine ⟨_, rfl, hb, ?_⟩
 replace Oe := zQ Oe hb
 replace Op := zQ Op hb
 replace Om := zQ Om hb
 replace Ob := zQ Ob hb
 replace Oh := zQ Oh hb
 replace Ot := zQ Ot hb
 replace O1 := zQ O1 hb
 replace Be := zX Be hb
 replace Bp := zX Bp hb
 replace Bm := zX Bm hb
 replace Bb := zX Bb hb
 replace Bh := zX Bh hb
 replace Bt := zX Bt hb
 replace O2 := hide O2.out.rd
 replace hU := zU hU hU.size hb
 clear hb
 have G2 := zGd E2 (gd_of (by decide +kernel))
 have L2 := zLe G2
 have Y2 := hide G2.by_
 clear G2
 refine zac (i := 58) (m' := 576460752303423487) rfl rfl ((vAShr_any A1 A2 l1 l2 c1 c2 s1 s2 _ L1.out L2.out C1 C2 O1.out O2.out Y1.out Y2.out).mono ?_)
 rintro e w62 ⟨l3, s3, A3, c3, E3, rfl, C3, O3, hb⟩
 refine ⟨_, rfl, hb, ?_⟩
 replace Oe := zQ Oe hb
 replace Op := zQ Op hb
 replace Om := zQ Om hb
 replace Ob := zQ Ob hb
 replace Oh := zQ Oh hb
 replace Ot := zQ Ot hb
 replace O1 := zQ O1 hb
 replace O2 := zQ O2 hb
 replace Be := zX Be hb
 replace Bp := zX Bp hb
 replace Bm := zX Bm hb
 replace Bb := zX Bb hb
 replace Bh := zX Bh hb
 replace Bt := zX Bt hb
 replace O3 := hide O3.out.rd
 replace hU := zU hU hU.size hb
 clear hb
 have G3 := zGd E3 ((by rw [E1.out, E2.out]; exact gd_of (by decide +kernel)))
 have L3 := zLe G3
 have Y3 := hide G3.by_
 clear G3
 replace E3 := hide (show (⟨l3, s3⟩ : Vc) = shf mAShr ⟨ofB ⟨#[49, 48, 48, 48]⟩, true⟩ ⟨ofB ⟨#[49]⟩, false⟩ from E3.out.trans (by rw [E1.out, E2.out]))
 clear O1 C1 L1 Y1 O2 C2 L2 Y2
 refine zac (i := 59) (m' := 1152921504606846975) rfl rfl ((vsof_any ⟨#[49, 49, 48, 48]⟩ _ (by decide)).mono ?_)
 rintro e w63 ⟨l4, s4, A4, c4, E4, rfl, C4, O4, hb⟩
 refine ⟨_, rfl, hb, ?_⟩
 replace Oe := zQ Oe hb
 replace Op := zQ Op hb
 replace Om := zQ Om hb
 replace Ob := zQ Ob hb
 replace Oh := zQ Oh hb
 replace Ot := zQ Ot hb
 replace O3 := zQ O3 hb
 replace Be := zX Be hb
 replace Bp := zX Bp hb
 replace Bm := zX Bm hb
 replace Bb := zX Bb hb
 replace Bh := zX Bh hb
 replace Bt := zX Bt hb
 replace O4 := hide O4.out.rd
 replace hU := zU hU hU.size hb
 clear hb
 have G4 := zGd E4 (gd_of (by decide +kernel))
 have L4 := zLe G4
 have Y4 := hide G4.by_
 clear G4
 refine zac (i := 60) (m' := 2305843009213693951) rfl rfl ((rsame_yes A3 A4 l3 l4 c3 c4 s3 s4 _ L3.out L4.out O3.out O4.out (by rw [E3.out, E4.out]; exact (sm_iff _ _).1 (by decide +kernel))).mono ?_)
 rintro e w64 ⟨rfl, hb⟩
 refine ⟨_, rfl, hb, ?_⟩
 replace Oe := zQ Oe hb
 replace Op := zQ Op hb
 replace Om := zQ Om hb
 replace Ob := zQ Ob hb
 replace Oh := zQ Oh hb
 replace Ot := zQ Ot hb
 replace O3 := zQ O3 hb
 replace O4 := zQ O4 hb
 replace Be := zX Be hb
 replace Bp := zX Bp hb
 replace Bm := zX Bm hb
 replace Bb := zX Bb hb
 replace Bh := zX Bh hb
 replace Bt := zX Bt hb
 replace hU := zU hU hU.size hb
 clear hb O3 C3 L3 Y3
 clear O4 C4 L4 Y4
 refine zav (i := 61) (m' := 4611686018427387903) (v := .bool true) F hQ rfl rfl (zav (i := 62) (m' := 9223372036854775807) (v := .bool true) F hQ rfl rfl (zav (i := 63) (m' := 18446744073709551615) (v := .func (.func 16) #[] #[]) F hQ rfl rfl (anyR_ldvec (i := 64) (m' := 36893488147419103231) Bh0.out F hQ rfl rfl (by kernel_rfl) (by kernel_rfl) (by kernel_rfl) (by kernel_rfl) (by kernel_rfl) rfl (by kernel_rfl) ?_)))
 refine zac (i := 65) (m' := 73786976294838206463) rfl rfl ((vof_any ⟨#[49, 48, 48, 122, 49]⟩ _ (by decide)).mono ?_)
 rintro e w65 ⟨l1, s1, A1, c1, E1, rfl, C1, O1, hb⟩
 refine ⟨_, rfl, hb, ?_⟩
 replace Oe := zQ Oe hb
 replace Op := zQ Op hb
 replace Om := zQ Om hb
 replace Ob := zQ Ob hb
 replace Oh := zQ Oh hb
 replace Ot := zQ Ot hb
 replace Be := zX Be hb
 replace Bp := zX Bp hb
 replace Bm := zX Bm hb
 replace Bb := zX Bb hb
 replace Bh := zX Bh hb
 replace Bt := zX Bt hb
 replace O1 := hide O1.out.rd
 replace hU := zU hU hU.size hb
 clear hb
 have G1 := zGd E1 (gd_of (by decide +kernel))
 have L1 := zLe G1
 have Y1 := hide G1.by_
 clear G1
 refine zac (i := 66) (m' := 147573952589676412927) rfl rfl ((rsame_yes Ah A1 lh l1 ch c1 sh s1 _ Lh.out L1.out Oh.out O1.out (by rw [Eh.out, E1.out]; exact (sm_iff _ _).1 (by decide +kernel))).mono ?_)
 rintro e w66 ⟨rfl, hb⟩
 refine ⟨_, rfl, hb, ?_⟩
 replace Oe := zQ Oe hb
 replace Op := zQ Op hb
 replace Om := zQ Om hb
 replace Ob := zQ Ob hb
 replace Oh := zQ Oh hb
 replace Ot := zQ Ot hb
 replace O1 := zQ O1 hb
 replace Be := zX Be hb
 replace Bp := zX Bp hb
 replace Bm := zX Bm hb
 replace Bb := zX Bb hb
 replace Bh := zX Bh hb
 replace Bt := zX Bt hb
 replace hU := zU hU hU.size hb
 clear hb O1 C1 L1 Y1
 refine zav (i := 67) (m' := 295147905179352825855) (v := .bool true) F hQ rfl rfl (zav (i := 68) (m' := 590295810358705651711) (v := .bool true) F hQ rfl rfl (zav (i := 69) (m' := 1180591620717411303423) (v := .func (.func 16) #[] #[]) F hQ rfl rfl (anyR_ldvec (i := 70) (m' := 2361183241434822606847) Bt0.out F hQ rfl rfl (by kernel_rfl) (by kernel_rfl) (by kernel_rfl) (by kernel_rfl) (by kernel_rfl) rfl (by kernel_rfl) ?_)))
 refine zac (i := 71) (m' := 4722366482869645213695) rfl rfl ((vof_any ⟨#[120, 49, 48]⟩ _ (by decide)).mono ?_)
 rintro e w67 ⟨l1, s1, A1, c1, E1, rfl, C1, O1, hb⟩
 refine ⟨_, rfl, hb, ?_⟩
 replace Oe := zQ Oe hb
 replace Op := zQ Op hb
 replace Om := zQ Om hb
 replace Ob := zQ Ob hb
 replace Oh := zQ Oh hb
 replace Ot := zQ Ot hb
 replace Be := zX Be hb
 replace Bp := zX Bp hb
 replace Bm := zX Bm hb
 replace Bb := zX Bb hb
 replace Bh := zX Bh hb
 replace Bt := zX Bt hb
 replace O1 := hide O1.out.rd
 replace hU := zU hU hU.size hb
 clear hb
 have G1 := zGd E1 (gd_of (by decide +kernel))
 have L1 := zLe G1
 have Y1 := hide G1.by_
 clear G1
 refine zac (i := 72) (m' := 9444732965739290427391) rfl rfl ((rsame_yes At A1 lt l1 ct c1 st s1 _ Lt.out L1.out Ot.out O1.out (by rw [Et.out, E1.out]; exact (sm_iff _ _).1 (by decide +kernel))).mono ?_)
 rintro e w68 ⟨rfl, hb⟩
 refine ⟨_, rfl, hb, ?_⟩
 replace Oe := zQ Oe hb
 replace Op := zQ Op hb
 replace Om := zQ Om hb
 replace Ob := zQ Ob hb
 replace Oh := zQ Oh hb
 replace Ot := zQ Ot hb
 replace O1 := zQ O1 hb
 replace Be := zX Be hb
 replace Bp := zX Bp hb
 replace Bm := zX Bm hb
 replace Bb := zX Bb hb
 replace Bh := zX Bh hb
 replace Bt := zX Bt hb
 replace hU := zU hU hU.size hb
 clear hb O1 C1 L1 Y1
 refine zav (i := 73) (m' := 18889465931478580854783) (v := .bool true) F hQ rfl rfl (zav (i := 74) (m' := 37778931862957161709567) (v := .bool true) F hQ rfl rfl (zav (i := 75) (m' := 75557863725914323419135) (v := .func (.func 16) #[] #[]) F hQ rfl rfl ?_))
 refine zac (i := 76) (m' := 151115727451828646838271) rfl rfl ((vof_any ⟨#[120]⟩ _ (by decide)).mono ?_)
 rintro e w69 ⟨l0, s0, A0, c0, E0, rfl, C0, O0, hb⟩
 refine ⟨_, rfl, hb, ?_⟩
 replace Oe := zQ Oe hb
 replace Op := zQ Op hb
 replace Om := zQ Om hb
 replace Ob := zQ Ob hb
 replace Oh := zQ Oh hb
 replace Ot := zQ Ot hb
 replace Be := zX Be hb
 replace Bp := zX Bp hb
 replace Bm := zX Bm hb
 replace Bb := zX Bb hb
 replace Bh := zX Bh hb
 replace Bt := zX Bt hb
 replace O0 := hide O0.out.rd
 replace hU := zU hU hU.size hb
 clear hb
 have G0 := zGd E0 (gd_of (by decide +kernel))
 have L0 := zLe G0
 have Y0 := hide G0.by_
 clear G0
 refine zac (i := 77) (m' := 302231454903657293676543) rfl rfl ((vof_any ⟨#[49, 48, 49, 48]⟩ _ (by decide)).mono ?_)
 rintro e w70 ⟨l1, s1, A1, c1, E1, rfl, C1, O1, hb⟩
 refine ⟨_, rfl, hb, ?_⟩
 replace Oe := zQ Oe hb
 replace Op := zQ Op hb
 replace Om := zQ Om hb
 replace Ob := zQ Ob hb
 replace Oh := zQ Oh hb
 replace Ot := zQ Ot hb
 replace O0 := zQ O0 hb
 replace Be := zX Be hb
 replace Bp := zX Bp hb
 replace Bm := zX Bm hb
 replace Bb := zX Bb hb
 replace Bh := zX Bh hb
 replace Bt := zX Bt hb
 replace O1 := hide O1.out.rd
 replace hU := zU hU hU.size hb
 clear hb
 have G1 := zGd E1 (gd_of (by decide +kernel))
 have L1 := zLe G1
 have Y1 := hide G1.by_
 clear G1
 refine zac (i := 78) (m' := 604462909807314587353087) rfl rfl ((vof_any ⟨#[49, 48, 48, 49]⟩ _ (by decide)).mono ?_)
 rintro e w71 ⟨l2, s2, A2, c2, E2, rfl, C2, O2, hb⟩
 refine ⟨_, rfl, hb, ?_⟩
 replace Oe := zQ Oe hb
 replace Op := zQ Op hb
 replace Om := zQ Om hb
 replace Ob := zQ Ob hb
 replace Oh := zQ Oh hb
 replace Ot := zQ Ot hb
 replace O0 := zQ O0 hb
 replace O1 := zQ O1 hb
 replace Be := zX Be hb
 replace Bp := zX Bp hb
 replace Bm := zX Bm hb
 replace Bb := zX Bb hb
 replace Bh := zX Bh hb
 replace Bt := zX Bt hb
 replace O2 := hide O2.out.rd
 replace hU := zU hU hU.size hb
 clear hb
 have G2 := zGd E2 (gd_of (by decide +kernel))
 have L2 := zLe G2
 have Y2 := hide G2.by_
 clear G2
 refine zac (i := 79) (m' := 1208925819614629174706175) rfl rfl ((vCond_any A0 l0 c0 s0 A1 A2 l1 l2 c1 c2 s1 s2 _ L1.out L2.out C1 C2 O1.out O2.out Y1.out Y2.out L0.out C0 O0.out Y0.out (HT.out.kept hU)).mono ?_)
 rintro e w72 ⟨l3, s3, A3, c3, E3, rfl, C3, O3, hb⟩
 refine ⟨_, rfl, hb, ?_⟩
 replace Oe := zQ Oe hb
 replace Op := zQ Op hb
 replace Om := zQ Om hb
 replace Ob := zQ Ob hb
 replace Oh := zQ Oh hb
 replace Ot := zQ Ot hb
 replace O0 := zQ O0 hb
 replace O1 := zQ O1 hb
 replace O2 := zQ O2 hb
 replace Be := zX Be hb
 replace Bp := zX Bp hb
 replace Bm := zX Bm hb
 replace Bb := zX Bb hb
 replace Bh := zX Bh hb
 replace Bt := zX Bt hb
 replace O3 := hide O3.out.rd
 replace hU := zU hU hU.size hb
 clear hb
 have G3 := zGd E3 ((by rw [E0.out, E1.out, E2.out]; exact gd_of (by decide +kernel)))
 have L3 := zLe G3
 have Y3 := hide G3.by_
 clear G3
 replace E3 := hide (show (⟨l3, s3⟩ : Vc) = vCond ⟨ofB ⟨#[120]⟩, false⟩ ⟨ofB ⟨#[49, 48, 49, 48]⟩, false⟩ ⟨ofB ⟨#[49, 48, 48, 49]⟩, false⟩ from E3.out.trans (by rw [E0.out, E1.out, E2.out]))
 clear O0 C0 L0 Y0 O1 C1 L1 Y1
 clear O2 C2 L2 Y2
 refine zac (i := 80) (m' := 2417851639229258349412351) rfl rfl ((vof_any ⟨#[49, 48, 120, 120]⟩ _ (by decide)).mono ?_)
 rintro e w73 ⟨l4, s4, A4, c4, E4, rfl, C4, O4, hb⟩
 refine ⟨_, rfl, hb, ?_⟩
 replace Oe := zQ Oe hb
 replace Op := zQ Op hb
 replace Om := zQ Om hb
 replace Ob := zQ Ob hb
 replace Oh := zQ Oh hb
 replace Ot := zQ Ot hb
 replace O3 := zQ O3 hb
 replace Be := zX Be hb
 replace Bp := zX Bp hb
 replace Bm := zX Bm hb
 replace Bb := zX Bb hb
 replace Bh := zX Bh hb
 replace Bt := zX Bt hb
 replace O4 := hide O4.out.rd
 replace hU := zU hU hU.size hb
 clear hb
 have G4 := zGd E4 (gd_of (by decide +kernel))
 have L4 := zLe G4
 have Y4 := hide G4.by_
 clear G4
 refine zac (i := 81) (m' := 4835703278458516698824703) rfl rfl ((rsame_yes A3 A4 l3 l4 c3 c4 s3 s4 _ L3.out L4.out O3.out O4.out (by rw [E3.out, E4.out]; exact (sm_iff _ _).1 (by decide +kernel))).mono ?_)
 rintro e w74 ⟨rfl, hb⟩
 refine ⟨_, rfl, hb, ?_⟩
 replace Oe := zQ Oe hb
 replace Op := zQ Op hb
 replace Om := zQ Om hb
 replace Ob := zQ Ob hb
 replace Oh := zQ Oh hb
 replace Ot := zQ Ot hb
 replace O3 := zQ O3 hb
 replace O4 := zQ O4 hb
 replace Be := zX Be hb
 replace Bp := zX Bp hb
 replace Bm := zX Bm hb
 replace Bb := zX Bb hb
 replace Bh := zX Bh hb
 replace Bt := zX Bt hb
 replace hU := zU hU hU.size hb
 clear hb O3 C3 L3 Y3
 clear O4 C4 L4 Y4
 refine zav (i := 82) (m' := 9671406556917033397649407) (v := .bool true) F hQ rfl rfl (anyR_e (anyR_last (i := 83) (m' := 19342813113834066795298815) (v := .bool true) rfl rfl (by kernel_rfl) (by kernel_rfl) (by kernel_rfl) (by kernel_rfl) (by kernel_rfl) (anyE_done (by kernel_rfl) ?_)))
 clear F hQ Be0 Bp0 Bm0 Bb0 Bh0 Bt0
 refine then_normal (wp_ret ?_)
 refine (show bodyPost _ _ _ .ret _ _ from ret_sl (.bool true) rfl (by kernel_rfl) ?_)
 exact ⟨rfl, hU⟩
end
section
open Go Go.RowKit
set_option maxRecDepth 100000
set_option linter.unusedSimpArgs false
set_option linter.unusedVariables false
section
variable {P : Program} {ρ : Operand → Value} {o : Oper} {x y : Operand} {w : World} {t p : TypeId} {a b c : Int}
theorem run_beql (ho : o.op = .binOp .eql 4 x y p) {a b : Bool} (hx : ρ x = .bool a) (hy : ρ y = .bool b) {q : Bool} (hc : (a == b) = q) : (execOp ρ o).run Tryz.prog w = .ok (.value (.bool q)) w := by
  subst hc
  unfold execOp
  rw [ho]
  simp only [hx, hy]
  cases a <;> cases b <;> kernel_rfl
end
end
section
open Go Go.RowKit
set_option maxRecDepth 100000
set_option linter.unusedSimpArgs false
set_option linter.unusedVariables false
section
variable {P : Program} {Q : Exit → Act → World → Prop} {c : Code} {n : Nat}
end
section
variable {P : Program} {ρ : Operand → Value} {o : Oper} {x y : Operand} {w : World} {t p : TypeId} {a b : Int}
end
/-- The place of a bit, and the bit, at every world to come. -/
theorem RQ.bit {w : World} {A : Option Addr} {l : List Int} (h : RQ w A l) {i : Nat} (hi : i < l.length) : ∃ ad, A = some ad ∧ ∀ w', Below w.heap.size w w' → w'.cell? (ad.add i) = some (.int .u8 (qt l i)) := by
  obtain ⟨ad, e, hl, hc⟩ := h.at_ hi
  exact ⟨ad, e, fun w' hb => (hb.cell (p := ad.add i) (by rw [block_of_add]; exact hl)).trans hc⟩
end
section
open Go Go.RowKit
set_option maxRecDepth 100000
set_option linter.unusedSimpArgs false
set_option linter.unusedVariables false
/-- A block of the call's own whose cells are these. -/
structure Arr (N : Nat) (T : TypeId) (l : List Value) (w : World) : Prop where
  h : w.heap[N]? = some (.cells l.toArray T (0, 0))
theorem Arr.lt {N : Nat} {T : TypeId} {l : List Value} {w : World} (a : Arr N T l w) : N < w.heap.size := lt_of_block a.h
theorem Arr.kept {N : Nat} {T : TypeId} {l : List Value} {w w' : World} (a : Arr N T l w) (hb : Below w.heap.size w w') : Arr N T l w' := ⟨by rw [hb.block N a.lt]; exact a.h⟩
theorem Arr.cell {N i : Nat} {T : TypeId} {l : List Value} {w : World} {v : Value} (a : Arr N T l w) (hv : l[i]? = some v) : w.cell? ⟨N, i, none⟩ = some v := by
  rw [cell_of_row w N i _ _ _ a.h]
  simpa using hv
theorem Arr.free {N : Nat} {T : TypeId} {l : List Value} {w : World} (a : Arr N T l w) (i : Nat) : w.frozen? ⟨N, i, none⟩ = false := frozen_of_row w N i _ _ a.h
theorem Arr.set {N i : Nat} {T : TypeId} {l : List Value} {w : World} (a : Arr N T l w) (v : Value) : Arr N T (l.set i v) (w.setCell ⟨N, i, none⟩ v) := ⟨by
  rw [heap_setCell_same w N i _ _ _ a.h]
  simp⟩
theorem Arr.far {N M i : Nat} {T : TypeId} {l : List Value} {w : World} (a : Arr M T l w) (h : M ≠ N) (v : Value) : Arr M T l (w.setCell ⟨N, i, none⟩ v) := ⟨by
  rw [heap_setCell_other w ⟨N, i, none⟩ M v h]
  exact a.h⟩
section
variable {P : Program} {Q : Exit → Act → World → Prop} {ops : Array Oper} {o : Oper} {rest : List Oper} {x y : Operand} {w W : World} {N m c n d j : Nat} {T : TypeId} {A : Option Addr} {s : Bool} {E : Env} {l l' : List Value} {ρ : Operand → Value} {u0 u1 : Value} {z z0 : Int} {k : IntKind}
theorem run_ldarr (ho : o.op = .load 24 x) (hx : ρ x = .pointer (some ⟨N, j, none⟩)) (a : Arr N T l w) (h0 : l[j]? = some (.slice A m c)) (h1 : l[j + 1]? = some (.bool s)) :
    (execOp ρ o).run Tryz.prog w = .ok (.value (vagg A m c s)) w := by
  have e0 := a.cell h0
  have e1 := a.cell h1
  unfold execOp
  rw [ho]
  simp only [hx]
  simp [go_sem, e0, e1]
end
end
section
open Go Go.RowKit
set_option maxRecDepth 100000
set_option linter.unusedSimpArgs false
set_option linter.unusedVariables false
section
variable {Q : Exit → Act → World → Prop} {ops : Array Oper} {o : Oper} {rest : List Oper} {x y : Operand} {w W : World} {N n d m c : Nat} {s : Bool} {E : Env} {A : Option Addr}
theorem wpl_al (hd : o.dst = some d) (hw : wnt ops n E o = true) (ho : o.op = .alloc 24)
    (h : ∀ (V : World) (N : Nat), Box N none 0 0 false V → w.heap.size ≤ N → Below w.heap.size w V → WL Tryz.prog ops Q rest n ((d, .pointer (some ⟨N, 0, none⟩)) :: E) V) : WL Tryz.prog ops Q (o :: rest) n E w :=
  wpl_val hd hw (run_alvec ho) (h _ _ (Box.boxed w none 0 0 false) (Nat.le_refl _) ((Below.refl _ _).alloc (Nat.le_refl _) _))
theorem run_ldsg {ρ : Operand → Value} (ho : o.op = .load 4 x) (hx : ρ x = .pointer (some ⟨N, 1, none⟩)) (B : Box N A m c s w) : (execOp ρ o).run Tryz.prog w = .ok (.value (.bool s)) w := by
  have h1 := B.c1
  unfold execOp
  rw [ho]
  simp only [hx]
  simp [go_sem, h1]
theorem wpl_ldsg (B : Box N A m c s w) (hd : o.dst = some d) (hw : wnt ops n E o = true) (ho : o.op = .load 4 x) (hx : evl n E x = .pointer (some ⟨N, 1, none⟩))
    (h : WL Tryz.prog ops Q rest n ((d, .bool s) :: E) w) : WL Tryz.prog ops Q (o :: rest) n E w := wpl_val hd hw (run_ldsg ho hx B) h
end
end
section
open Go.RowKit
set_option maxRecDepth 100000
set_option linter.unusedSimpArgs false
set_option linter.unusedVariables false
/-- A list of bits is below another, place by place. -/
def leqB (a b : List Int) : Bool := a.length == b.length && (List.range a.length).all fun i => mLeq (qt a i) (qt b i)
theorem leqB_iff (a b : List Int) : leqB a b = true ↔ a.length = b.length ∧ ∀ i, i < a.length → mLeq (qt a i) (qt b i) = true := by
  unfold leqB
  rw [Bool.and_eq_true, beq_iff_eq, List.all_eq_true]
  exact ⟨fun ⟨h1, h2⟩ => ⟨h1, fun i hi => h2 i (List.mem_range.2 hi)⟩, fun ⟨h1, h2⟩ => ⟨h1, fun i hi => h2 i (List.mem_range.1 hi)⟩⟩
def leqV (a b : Vc) : Bool := a.s == b.s && leqB a.b b.b
set_option maxHeartbeats 1000000 in
theorem equalf_q (A B : Option Addr) (a b : List Int) (c d : Nat) (w : World) (ha : a.length ≤ 4096) (hb : b.length ≤ 4096) (hA : RQ w A a) (hB : RQ w B b) :
    Calls Tryz.prog 124 #[.slice A a.length c, .slice B b.length d, .func (.func 85) #[] #[]] w fun e w' => e = .returned (.bool (leqB a b)) ∧ w = w' := by
  have HA := hide hA
  have HBB := hide hB
  have hcf : ∀ args w, (callFunc 85 args).run Tryz.prog w = .ok (.enter 85 args) w := Tryz.call85
  obtain ⟨r, hr⟩ : ∃ r, r = leqB a b := ⟨_, rfl⟩
  rw [← hr]
  have HR := hide (show r = true ↔ (a.length = b.length ∧ ∀ i, i < a.length → mLeq (qt a i) (qt b i) = true) by rw [hr]; exact leqB_iff a b)
  clear hA hB hr
  by_cases h0 : a.length = b.length
  · have HL := hide h0
    rw [← h0]
    clear h0 hb
    go_enter Tryz.func124, Tryz.ntmps124
    go_wp2
    go_loop [17] (fun i => ∃ k : Nat, k ≤ a.length ∧ i = .int .i64 k ∧ Hid (∀ j, j < k → mLeq (qt a j) (qt b j) = true)) (fun i => a.length - (intOf i).toNat)
    case atStart => exact ⟨0, Nat.zero_le _, rfl, hide fun j hj => by omega⟩
    case round =>
      obtain ⟨k, hk, rfl, hno⟩ := hrel
      by_cases hlt : k < a.length
      · obtain ⟨ad, rfl, hlt1, hc⟩ := HA.out.at_ hlt
        obtain ⟨bd, rfl, hlt2, hd⟩ := HBB.out.at_ (i := k) (by have := HL.out; omega)
        have hcall := hide (leq_q (qt a k) (qt b k) w)
        cases hx : mLeq (qt a k) (qt b k)
        · rw [hx] at hcall
          have hrf : r = false := by
            cases hq : r
            · rfl
            · have h2 := (HR.out.1 hq).2 k hlt
              rw [hx] at h2
              cases h2
          clear hx HR
          have hrf2 := hide hrf
          clear hrf
          go_wp2_with (refine (hcall.out).mono ?_; rintro e w' ⟨rfl, rfl⟩)
          go_ret
          exact ⟨ret_bool hrf2.out.symm, rfl⟩
        · rw [hx] at hcall
          have hx' := hide hx
          clear hx
          go_wp2_with (refine (hcall.out).mono ?_; rintro e w' ⟨rfl, rfl⟩)
          go_round
          case rel => exact ⟨k + 1, by omega, by go_num, hide fun j hj => by
            by_cases e : j = k
            · subst e; exact hx'.out
            · exact hno.out j (by omega)⟩
          case measure => simp [intOf]; omega
      · have hrt : r = true := HR.out.2 ⟨HL.out, fun i hi => hno.out i (by omega)⟩
        have hrt2 := hide hrt
        clear HR hrt
        go_wp2
        go_ret
        exact ⟨ret_bool hrt2.out.symm, rfl⟩
  · have hrf : r = false := by
      cases hq : r
      · rfl
      · exact absurd (HR.out.1 hq).1 h0
    rw [hrf]
    clear HR hrf
    have hl1 : ¬ (a.length : Int) = b.length := by omega
    go_enter Tryz.func124, Tryz.ntmps124
    go_wp2
    go_ret
    exact ⟨rfl, rfl⟩
theorem equalf_v (q : Bool) (A B : Option Addr) (a b : List Int) (c d : Nat) (w : World) (ha : a.length ≤ 4096) (hb : b.length ≤ 4096) (hA : RQ w A a) (hB : RQ w B b) (h : leqB a b = q) :
    Calls Tryz.prog 124 #[.slice A a.length c, .slice B b.length d, .func (.func 85) #[] #[]] w fun e w' => e = .returned (.bool q) ∧ w = w' := by
  rw [← h]; exact equalf_q A B a b c d w ha hb hA hB
set_option maxHeartbeats 2000000 in
theorem vLeq_any (Aa Ab : Option Addr) (la lb : List Int) (ca cb : Nat) (sa sb : Bool) (w : World) (ha : la.length ≤ 4096) (hb : lb.length ≤ 4096) (hca : Hid (la.length ≤ ca ∧ ca ≤ maxLen)) (hcb : Hid (lb.length ≤ cb ∧ cb ≤ maxLen)) (hra : RQ w Aa la) (hrb : RQ w Ab lb) (ya : By la) (yb : By lb) :
    Calls Tryz.prog 33 #[.agg #[.slice Aa la.length ca, .bool sa], .agg #[.slice Ab lb.length cb, .bool sb]] w (Mk (.bool (leqV (cnt ⟨la, sa⟩) (cnt ⟨lb, sb⟩))) w) := by
  have Oa := hide hra
  have La := hide ha
  have Ca := hca
  have Ya := hide ya
  have Ob := hide hrb
  have Lb := hide hb
  have Cb := hcb
  have Yb := hide yb
  clear ha hca hra ya hb hcb hrb yb
  have hU : Below w.heap.size w w := Below.refl _ _
  refine calls_sl (l := [.agg #[.slice Aa la.length ca, .bool sa], .agg #[.slice Ab lb.length cb, .bool sb]]) 21 Tryz.func33 rfl (by kernel_rfl) (by simp) (wp_seq (reg_lit (wpl_boxvec (A := Aa) (m := la.length) (c := ca) (s := sa) rfl (by kernel_rfl) rfl (by kernel_rfl) ?_)))
  intro w1 Na Ba hNa hb
  replace Ba := hide Ba
  replace Oa := hide (RQ.below Oa.out hb)
  replace Ob := hide (RQ.below Ob.out hb)
  have hza : w.heap.size ≤ Na := Nat.le_trans hU.size hNa
  clear hNa
  replace hU := hU.trans (hb.mono hU.size)
  clear hb
  refine wpl_boxvec (A := Ab) (m := lb.length) (c := cb) (s := sb) rfl (by kernel_rfl) rfl (by kernel_rfl) ?_
  intro w2 Nb Bb hNb hb
  replace Bb := hide Bb
  have neab : Na ≠ Nb := by have := Ba.out.lt; omega
  replace Oa := hide (RQ.below Oa.out hb)
  replace Ob := hide (RQ.below Ob.out hb)
  replace Ba := hide (Box.kept Ba.out hb)
  have hzb : w.heap.size ≤ Nb := Nat.le_trans hU.size hNb
  clear hNb
  replace hU := hU.trans (hb.mono hU.size)
  clear hb
  refine wpl_r1 [(4, .bool false)] (by kernel_rfl) (wpl_end (then_normal (wp_seq (region_R (n := 4) (N := 6) (by kernel_rfl) (by kernel_rfl) (by kernel_rfl) (by kernel_rfl) (by kernel_rfl) (by kernel_rfl) (fun _ _ _ _ _ h => h) ?_))))
  intro F hQ
  have Ba0 := Ba
  have Bb0 := Bb
  refine anyR_ldvec (i := 0) (m' := 1) Ba0.out F hQ rfl rfl (by kernel_rfl) (by kernel_rfl) (by kernel_rfl) (by kernel_rfl) (by kernel_rfl) rfl (by kernel_rfl) (anyR_ldvec (i := 2) (m' := 5) Bb0.out F hQ rfl rfl (by kernel_rfl) (by kernel_rfl) (by kernel_rfl) (by kernel_rfl) (by kernel_rfl) rfl (by kernel_rfl) ?_)
  refine anyR_call (i := 1) (m' := 7) rfl rfl (by kernel_rfl) (by kernel_rfl) (by kernel_rfl) (by kernel_rfl) (by kernel_rfl) ((counted_any Aa la ca sa _ _ La.out Ca (by exact Oa.out) (Below.refl _ _)).mono ?_)
  rintro e w3 ⟨l1, s1, A1, c1, E1, rfl, C1, O1, hb⟩
  refine ⟨_, rfl, hb, ?_⟩
  replace hb : Below w2.heap.size w2 w3 := Below.trans ((Below.refl _ _).drew) hb
  replace Oa := hide (RQ.below Oa.out hb)
  replace Ob := hide (RQ.below Ob.out hb)
  replace Ba := hide (Box.kept Ba.out hb)
  replace Bb := hide (Box.kept Bb.out hb)
  replace O1 := hide O1.out.rd
  replace hU := hU.trans (hb.mono hU.size)
  clear hb
  have G1 : Gd l1 := by have h := congrArg Vc.b E1.out; dsimp only at h; rw [h]; exact (cnt_gd (v := ⟨la, sa⟩) Ya.out)
  have L1 := hide (show l1.length ≤ 4096 from Nat.le_trans G1.le (by decide))
  have Y1 := hide G1.by_
  clear G1
  refine anyR_call (i := 3) (m' := 15) rfl rfl (by kernel_rfl) (by kernel_rfl) (by kernel_rfl) (by kernel_rfl) (by kernel_rfl) ((counted_any Ab lb cb sb _ _ Lb.out Cb Ob.out (Below.refl _ _)).mono ?_)
  rintro e w4 ⟨l2, s2, A2, c2, E2, rfl, C2, O2, hb⟩
  refine ⟨_, rfl, hb, ?_⟩
  replace Oa := hide (RQ.below Oa.out hb)
  replace Ob := hide (RQ.below Ob.out hb)
  replace O1 := hide (RQ.below O1.out hb)
  replace Ba := hide (Box.kept Ba.out hb)
  replace Bb := hide (Box.kept Bb.out hb)
  replace O2 := hide O2.out.rd
  replace hU := hU.trans (hb.mono hU.size)
  clear hb
  have G2 : Gd l2 := by have h := congrArg Vc.b E2.out; dsimp only at h; rw [h]; exact (cnt_gd (v := ⟨lb, sb⟩) Yb.out)
  have L2 := hide (show l2.length ≤ 4096 from Nat.le_trans G2.le (by decide))
  have Y2 := hide G2.by_
  clear G2
  refine anyR_e (anyE_st (i := 4) (m' := 31) Ba.out rfl rfl (by kernel_rfl) (by kernel_rfl) (by kernel_rfl) (by kernel_rfl) rfl (by kernel_rfl) (A2 := A1) (m2 := l1.length) (c2 := c1) (s2 := s1) (by kernel_rfl) ?_)
  intro w5 hst
  replace Oa := hide (hst.rq Oa.out)
  replace Ob := hide (hst.rq Ob.out)
  replace O1 := hide (hst.rq O1.out)
  replace O2 := hide (hst.rq O2.out)
  replace Bb := hide (hst.ne Bb.out (by first | exact neba | exact (Ne.symm neab) | assumption | (exact Ne.symm (by assumption)) | omega))
  replace Ba := hide hst.box
  replace hU := hU.trans (hst.bel hza)
  clear hst
  refine anyE_st (i := 5) (m' := 63) Bb.out rfl rfl (by kernel_rfl) (by kernel_rfl) (by kernel_rfl) (by kernel_rfl) rfl (by kernel_rfl) (A2 := A2) (m2 := l2.length) (c2 := c2) (s2 := s2) (by kernel_rfl) ?_
  intro w6 hst
  replace Oa := hide (hst.rq Oa.out)
  replace Ob := hide (hst.rq Ob.out)
  replace O1 := hide (hst.rq O1.out)
  replace O2 := hide (hst.rq O2.out)
  replace Ba := hide (hst.ne Ba.out (by first | exact neab | exact (Ne.symm neba) | assumption | (exact Ne.symm (by assumption)) | omega))
  replace Bb := hide hst.box
  replace hU := hU.trans (hst.bel hzb)
  clear hst
  refine anyE_done (by kernel_rfl) ?_
  clear F hQ Ba0 Bb0
  refine then_normal (wp_seq ?_)
  rw [← E1.out, ← E2.out]
  cases hs : (s1 == s2)
  refine reg_lit (wpl_r1 [(9, .pointer (some ⟨Na, 1, none⟩))] (by kernel_rfl) (wpl_ldsg Ba.out rfl (by kernel_rfl) rfl (by kernel_rfl) (wpl_r1 [(11, .pointer (some ⟨Nb, 1, none⟩))] (by kernel_rfl) (wpl_ldsg Bb.out rfl (by kernel_rfl) rfl (by kernel_rfl) (wpl_val rfl (by kernel_rfl) (run_beql (a := s1) (b := s2) rfl (by kernel_rfl) (by kernel_rfl) hs) (wpl_r8 [(4, .bool false), (20, .bool false), (19, undef), (18, undef), (17, undef), (16, undef), (15, undef), (14, .bool false)] (by kernel_rfl) (wpl_end ?_)))))))
  refine then_normal (wp_ret ?_)
  refine (show bodyPost _ _ _ .ret _ _ from ret_sl (.bool false) rfl (by kernel_rfl) ?_)
  exact ⟨congrArg (fun b => Ending.returned (.bool b)) (by show false = (s1 == s2 && leqB l1 l2); rw [hs]; rfl), hU⟩
  obtain ⟨q, hq⟩ : ∃ q, leqB l1 l2 = q := ⟨_, rfl⟩
  refine reg_lit (wpl_r1 [(9, .pointer (some ⟨Na, 1, none⟩))] (by kernel_rfl) (wpl_ldsg Ba.out rfl (by kernel_rfl) rfl (by kernel_rfl) (wpl_r1 [(11, .pointer (some ⟨Nb, 1, none⟩))] (by kernel_rfl) (wpl_ldsg Bb.out rfl (by kernel_rfl) rfl (by kernel_rfl) (wpl_val rfl (by kernel_rfl) (run_beql (a := s1) (b := s2) rfl (by kernel_rfl) (by kernel_rfl) hs) (wpl_r2 [(15, .pointer (some ⟨Na, 0, none⟩)), (14, .bool true)] (by kernel_rfl) (wpl_ldsl Ba.out rfl (by kernel_rfl) rfl (by kernel_rfl) ?_)))))))
  refine wpl_r1 [(17, .pointer (some ⟨Nb, 0, none⟩))] (by kernel_rfl) (wpl_ldsl Bb.out rfl (by kernel_rfl) rfl (by kernel_rfl) ?_)
  refine wpl_call rfl (by kernel_rfl) (by kernel_rfl) ((equalf_v q A1 A2 l1 l2 c1 c2 _ L1.out L2.out O1.out O2.out hq).mono ?_)
  rintro e w' ⟨rfl, rfl⟩
  refine ⟨_, rfl, ?_⟩
  refine wpl_r2 [(4, .bool q), (20, .bool q)] (by kernel_rfl) (wpl_end (then_normal (wp_ret ?_)))
  refine (show bodyPost _ _ _ .ret _ _ from ret_sl (.bool q) rfl (by kernel_rfl) ?_)
  exact ⟨congrArg (fun b => Ending.returned (.bool b)) (by show q = (s1 == s2 && leqB l1 l2); rw [hs]; rw [hq]; rfl), hU⟩
end
section
open Go.RowKit
set_option maxRecDepth 100000
/-- The bits of a, with those of p laid from lo on: the first k of them, below M. -/
def ptd (a p : List Int) (lo : Int) (k : Nat) (M : Int) (i : Nat) : Int := if lo ≤ i ∧ (i : Int) < lo + k ∧ (i : Int) < M then qt p ((i : Int) - lo).toNat else qt a i
/-- What Put answers where the span is good. -/
def vPut (a b : Vc) (hi lo : Int) : Vc := ⟨ql (cnt a).b.length (ptd (cnt a).b (rsz (cnt b) (hi - lo + 1).toNat) lo (hi - lo + 1).toNat (hi + 1)), (cnt a).s⟩
theorem ptd_start {a p : List Int} {lo M : Int} {k : Nat} (h : M ≤ lo ∨ M ≤ 0) (i : Nat) : ptd a p lo k M i = qt a i := by
  unfold ptd
  rw [if_neg (by omega)]
theorem ptd_step {a p : List Int} {lo : Int} {k j : Nat} (h1 : lo ≤ j) (h2 : (j : Int) < lo + k) (i : Nat) :
    (if i = j then qt p ((j : Int) - lo).toNat else ptd a p lo k j i) = ptd a p lo k ((j : Int) + 1) i := by
  unfold ptd
  by_cases e : i = j
  · subst e
    rw [if_pos rfl, if_pos ⟨h1, h2, by omega⟩]
  · rw [if_neg e]
    by_cases c : lo ≤ (i : Int) ∧ (i : Int) < lo + k ∧ (i : Int) < j
    · rw [if_pos c, if_pos ⟨c.1, c.2.1, by omega⟩]
    · rw [if_neg c, if_neg (by omega)]
/-- Past the end of a, or past the last bit that is laid, nothing changes any more. -/
theorem ptd_end {a p : List Int} {lo M M' : Int} {k : Nat} (h : (a.length : Int) ≤ M ∨ lo + k ≤ M) (h' : (a.length : Int) ≤ M' ∨ lo + k ≤ M') (i : Nat) (hi : i < a.length) : ptd a p lo k M i = ptd a p lo k M' i := by
  unfold ptd
  by_cases c : lo ≤ (i : Int) ∧ (i : Int) < lo + k
  · rw [if_pos ⟨c.1, c.2, by omega⟩, if_pos ⟨c.1, c.2, by omega⟩]
  · rw [if_neg (fun e => c ⟨e.1, e.2.1⟩), if_neg (fun e => c ⟨e.1, e.2.1⟩)]
/-- What a loop leaves that stores into one row g of the call's own. -/
structure PutQ (w W : World) (g n : Nat) (F : Nat → Int) (wr : World) : Prop where
  row : RowQ wr g n F
  bel : Below w.heap.size w wr
  far : ∀ b, b ≠ g → wr.heap[b]? = W.heap[b]?
  size : wr.heap.size = W.heap.size
theorem PutQ.start {w W : World} {g n : Nat} {F : Nat → Int} (h : RowQ W g n F) (hb : Below w.heap.size w W) : PutQ w W g n F W := ⟨h, hb, fun _ _ => rfl, rfl⟩
theorem PutQ.congr {w W wr : World} {g n : Nat} {F G : Nat → Int} (h : PutQ w W g n F wr) (k : ∀ i, i < n → F i = G i) : PutQ w W g n G wr := ⟨h.row.congr k, h.bel, h.far, h.size⟩
theorem PutQ.step {w W wr : World} {g n : Nat} {F : Nat → Int} (h : PutQ w W g n F wr) (hg : w.heap.size ≤ g) (i : Nat) (v : Int) : PutQ w W g n (fun j => if j = i then v else F j) (wr.setCell ⟨g, i, none⟩ (.int .u8 v)) where
  row := h.row.set_ i v
  bel := h.bel.setCell (by exact hg) _
  far := fun b hb => by
    rw [← h.far b hb]
    exact heap_setCell_other wr ⟨g, i, none⟩ b _ hb
  size := by rw [← h.size]; simp
theorem PutQ.cell {w W wr : World} {g n : Nat} {F : Nat → Int} (h : PutQ w W g n F wr) {p : Addr} (hp : p.block ≠ g) : wr.cell? p = W.cell? p := by
  unfold World.cell?
  rw [h.far _ hp]
theorem PutQ.frozen {w W wr : World} {g n : Nat} {F : Nat → Int} (h : PutQ w W g n F wr) {p : Addr} (hp : p.block ≠ g) : wr.frozen? p = W.frozen? p := by
  unfold World.frozen?
  rw [h.far _ hp]
end
section
open Go.RowKit
set_option maxRecDepth 100000
set_option linter.unusedSimpArgs false
set_option linter.unusedVariables false
set_option maxHeartbeats 2000000 in
theorem vPut_any (hi lo : Int) (A B : Option Addr) (a b : List Int) (c d : Nat) (s t : Bool) (w : World) (ha : a.length ≤ 4096) (hb : b.length ≤ 4096) (hca : Hid (a.length ≤ c ∧ c ≤ maxLen)) (hcb : Hid (b.length ≤ d ∧ d ≤ maxLen)) (hA : RQ w A a) (hB : RQ w B b) (ya : By a) (yb : By b) (b1 : -9223372036854775808 ≤ lo) (b2 : hi ≤ 9223372036854775807) (b3 : -9223372036854775808 ≤ hi) (b4 : lo ≤ 9223372036854775807) :
    Calls Tryz.prog 49 #[.agg #[.slice A a.length c, .bool s], .int .i64 hi, .int .i64 lo, .agg #[.slice B b.length d, .bool t]] w (RetE (spn hi lo) (vPut ⟨a, s⟩ ⟨b, t⟩ hi lo) w) := by
  have HA := hide hA
  have HBB := hide hB
  have LA := hide ha
  have LB := hide hb
  have YA := hide ya
  have YB := hide yb
  clear hA hB ha hb ya yb
  have hcall := hide fun w => span_any hi lo w b1 b2 b3 b4
  obtain ⟨r, hr⟩ : ∃ r, r = spn hi lo := ⟨_, rfl⟩
  rw [← hr] at hcall ⊢
  have hfld := fld0
  by_cases h0 : r = 0
  · obtain ⟨g1, g2⟩ := spn_0.1 (hr.symm.trans h0)
    subst h0
    clear hr
    rw [if_pos rfl] at hcall
    obtain ⟨k, hk⟩ : ∃ k : Nat, hi - lo + 1 = k := ⟨(hi - lo + 1).toNat, by omega⟩
    have HV : Hid (vPut ⟨a, s⟩ ⟨b, t⟩ hi lo = ⟨ql (cnt ⟨a, s⟩).b.length (ptd (cnt ⟨a, s⟩).b (rsz (cnt ⟨b, t⟩) k) lo k (hi + 1)), (cnt ⟨a, s⟩).s⟩) := hide (by unfold vPut; rw [hk, Int.toNat_natCast])
    rw [HV.out]
    clear HV
    rw [hk] at hcall
    have hk2 : k ≤ 128 := by omega
    have hk1 : 1 ≤ k := by omega
    clear g1 g2
    go_enter Tryz.func49, Tryz.ntmps49
    go_wp2_with fail
    refine (hcall.out _).mono ?_
    rintro e w' ⟨rfl, rfl⟩
    go_wp2_with fail
    refine (counted_any A a c s w _ LA.out hca HA.out belo).mono ?_
    rintro e w1 ⟨l1, s1, A1, c1, E1, rfl, C1, O1, hb⟩
    replace O1 := hide (O1.out.lower (show w.heap.size + 3 ≤ _ by first | omega | (simp; omega) | (simp; done)))
    have hB1 : Below w.heap.size w w1 := Below.trans belo (hb.mono (by first | omega | (simp; done) | (simp; omega)))
    obtain ⟨kc1, kf1⟩ := bcell hb
    have hz1 := hb.size
    (try simp at hz1)
    have n1_0 : w.heap.size < w1.heap.size := by omega
    have n1_1 : w.heap.size + 1 < w1.heap.size := by omega
    have n1_2 : w.heap.size + 2 < w1.heap.size := by omega
    have r1_0 : w1.cell? ⟨w.heap.size + 2, 0, none⟩ = some (.slice none 0 0) := (kc1 _ _ (by first | assumption | (simp; done) | omega | (simp; omega))).trans (by first | assumption | (simp [go_sem]; done) | (simp; done))
    have g1_0 : w1.frozen? ⟨w.heap.size + 2, 0, none⟩ = false := (kf1 _ _ (by first | assumption | (simp; done) | omega | (simp; omega))).trans (by first | assumption | (simp [go_sem]; done) | (simp; done))
    have r1_1 : w1.cell? ⟨w.heap.size + 2, 1, none⟩ = some (.bool false) := (kc1 _ _ (by first | assumption | (simp; done) | omega | (simp; omega))).trans (by first | assumption | (simp [go_sem]; done) | (simp; done))
    have g1_1 : w1.frozen? ⟨w.heap.size + 2, 1, none⟩ = false := (kf1 _ _ (by first | assumption | (simp; done) | omega | (simp; omega))).trans (by first | assumption | (simp [go_sem]; done) | (simp; done))
    have m1_0 : w1.cell? ⟨w.heap.size + 1, 0, none⟩ = some (.slice B b.length d) := (kc1 _ _ (by first | assumption | (simp; done) | omega | (simp; omega))).trans (by first | assumption | (simp [go_sem]; done))
    have v1_0 : w1.frozen? ⟨w.heap.size + 1, 0, none⟩ = false := (kf1 _ _ (by first | assumption | (simp; done) | omega | (simp; omega))).trans (by first | assumption | (simp [go_sem]; done))
    have m1_1 : w1.cell? ⟨w.heap.size + 1, 1, none⟩ = some (.bool t) := (kc1 _ _ (by first | assumption | (simp; done) | omega | (simp; omega))).trans (by first | assumption | (simp [go_sem]; done))
    have v1_1 : w1.frozen? ⟨w.heap.size + 1, 1, none⟩ = false := (kf1 _ _ (by first | assumption | (simp; done) | omega | (simp; omega))).trans (by first | assumption | (simp [go_sem]; done))
    have m1_2 : w1.cell? ⟨w.heap.size, 0, none⟩ = some (.slice A a.length c) := (kc1 _ _ (by first | assumption | (simp; done) | omega | (simp; omega))).trans (by first | assumption | (simp [go_sem]; done))
    have v1_2 : w1.frozen? ⟨w.heap.size, 0, none⟩ = false := (kf1 _ _ (by first | assumption | (simp; done) | omega | (simp; omega))).trans (by first | assumption | (simp [go_sem]; done))
    have m1_3 : w1.cell? ⟨w.heap.size, 1, none⟩ = some (.bool s) := (kc1 _ _ (by first | assumption | (simp; done) | omega | (simp; omega))).trans (by first | assumption | (simp [go_sem]; done))
    have v1_3 : w1.frozen? ⟨w.heap.size, 1, none⟩ = false := (kf1 _ _ (by first | assumption | (simp; done) | omega | (simp; omega))).trans (by first | assumption | (simp [go_sem]; done))
    clear kc1 kf1
    clear hb
    have G1 : Gd l1 := by have h := cnt_gd (v := ⟨a, s⟩) YA.out; rw [← E1.out] at h; exact h
    have u1 := G1.le
    go_wp2_with fail
    obtain ⟨W1, hW⟩ : ∃ W, W = (w1.setCell ⟨w.heap.size, 0, none⟩ (.slice A1 l1.length c1)).setCell ⟨w.heap.size, 1, none⟩ (.bool s1) := ⟨_, rfl⟩
    rw [← hW]
    have f0 : ∀ p, W1.frozen? p = w1.frozen? p := fun p => by rw [hW]; simp
    have f1 : ∀ b o, b ≠ w.heap.size → W1.cell? ⟨b, o, none⟩ = w1.cell? ⟨b, o, none⟩ := fun b o h => by rw [hW, World.cell?_setCell_far _ _ _ _ (fun e => h e.symm), World.cell?_setCell_far _ _ _ _ (fun e => h e.symm)]
    have a0 : W1.cell? ⟨w.heap.size, 0, none⟩ = some (.slice A1 l1.length c1) := by rw [hW, World.cell?_setCell_other _ _ _ _ (by simp)]; exact World.cell?_setCell_same _ _ _ m1_2
    have a1 : W1.cell? ⟨w.heap.size, 1, none⟩ = some (.bool s1) := by rw [hW]; exact World.cell?_setCell_same _ _ _ ((World.cell?_setCell_other _ _ _ _ (by simp)).trans m1_3)
    have BW : Below w.heap.size w W1 := by rw [hW]; exact belo
    have sW : W1.heap.size = w1.heap.size := by rw [hW]; simp
    replace O1 := hide (show RG w.heap.size (w.heap.size + 3) W1 A1 l1 by rw [hW]; (repeat (first | with_reducible exact O1.out | with_reducible refine RG.setc ?_ (by first | (simp; done) | omega | (simp; omega)) (by first | (simp; done) | omega | (simp; omega)) _ | with_reducible refine RG.allc ?_ _ | with_reducible refine RG.drew ?_ | with_reducible refine RG.drewN ?_ _)))
    have N_0 : w.heap.size + 0 < W1.heap.size := by omega
    have N_1 : w.heap.size + 1 < W1.heap.size := by omega
    have N_2 : w.heap.size + 2 < W1.heap.size := by omega
    have R_0 := (f1 (w.heap.size + 2) 0 (by omega)).trans r1_0
    have S_0 := (f0 ⟨w.heap.size + 2, 0, none⟩).trans g1_0
    have T_0 := (f1 (w.heap.size + 1) 0 (by omega)).trans m1_0
    have U_0 := (f0 ⟨w.heap.size + 1, 0, none⟩).trans v1_0
    have Z_0 := (f0 ⟨w.heap.size, 0, none⟩).trans v1_2
    have R_1 := (f1 (w.heap.size + 2) 1 (by omega)).trans r1_1
    have S_1 := (f0 ⟨w.heap.size + 2, 1, none⟩).trans g1_1
    have T_1 := (f1 (w.heap.size + 1) 1 (by omega)).trans m1_1
    have U_1 := (f0 ⟨w.heap.size + 1, 1, none⟩).trans v1_1
    have Z_1 := (f0 ⟨w.heap.size, 1, none⟩).trans v1_3
    rw [Nat.add_zero] at N_0
    clear hW f0 f1 hB1 n1_0 n1_1 n1_2 r1_0 r1_1 g1_0 g1_1 m1_0 m1_1 m1_2 m1_3 v1_0 v1_1 v1_2 v1_3 hz1 sW
    refine (cloneq_q A1 l1 c1 _ (by omega) (by refine RG.rd (B0 := w.heap.size) (B1 := w.heap.size + 3) ?_; (repeat (first | with_reducible exact O1.out | with_reducible refine RG.setc ?_ (by first | (simp; done) | omega | (simp; omega)) (by first | (simp; done) | omega | (simp; omega)) _ | with_reducible refine RG.allc ?_ _ | with_reducible refine RG.drew ?_ | with_reducible refine RG.drewN ?_ _)))).mono ?_
    rintro e w2 ⟨l2, A2, c2, E2, rfl, C2, O2, hb⟩
    replace O1 := hide ((show RG w.heap.size (w.heap.size + 3) _ A1 l1 by (repeat (first | with_reducible exact O1.out | with_reducible refine RG.setc ?_ (by first | (simp; done) | omega | (simp; omega)) (by first | (simp; done) | omega | (simp; omega)) _ | with_reducible refine RG.allc ?_ _ | with_reducible refine RG.drew ?_ | with_reducible refine RG.drewN ?_ _))).kept hb)
    replace O2 := hide (O2.out.base (show w.heap.size + 3 ≤ _ by first | omega | (simp; omega) | (simp; done)))
    have hB2 : Below w.heap.size w w2 := Below.trans belo (hb.mono (by first | omega | (simp; done) | (simp; omega)))
    obtain ⟨kc2, kf2⟩ := bcell hb
    have hz2 := hb.size
    (try simp at hz2)
    have n2_0 : w.heap.size < w2.heap.size := by omega
    have n2_1 : w.heap.size + 1 < w2.heap.size := by omega
    have n2_2 : w.heap.size + 2 < w2.heap.size := by omega
    have r2_0 : w2.cell? ⟨w.heap.size + 2, 0, none⟩ = some (.slice none 0 0) := (kc2 _ _ (by first | assumption | (simp; done) | omega | (simp; omega))).trans (by first | assumption | (simp [go_sem]; done) | (simp; done))
    have g2_0 : w2.frozen? ⟨w.heap.size + 2, 0, none⟩ = false := (kf2 _ _ (by first | assumption | (simp; done) | omega | (simp; omega))).trans (by first | assumption | (simp [go_sem]; done) | (simp; done))
    have r2_1 : w2.cell? ⟨w.heap.size + 2, 1, none⟩ = some (.bool false) := (kc2 _ _ (by first | assumption | (simp; done) | omega | (simp; omega))).trans (by first | assumption | (simp [go_sem]; done) | (simp; done))
    have g2_1 : w2.frozen? ⟨w.heap.size + 2, 1, none⟩ = false := (kf2 _ _ (by first | assumption | (simp; done) | omega | (simp; omega))).trans (by first | assumption | (simp [go_sem]; done) | (simp; done))
    have m2_0 : w2.cell? ⟨w.heap.size + 1, 0, none⟩ = some (.slice B b.length d) := (kc2 _ _ (by first | assumption | (simp; done) | omega | (simp; omega))).trans (by first | assumption | (simp [go_sem]; done))
    have v2_0 : w2.frozen? ⟨w.heap.size + 1, 0, none⟩ = false := (kf2 _ _ (by first | assumption | (simp; done) | omega | (simp; omega))).trans (by first | assumption | (simp [go_sem]; done))
    have m2_1 : w2.cell? ⟨w.heap.size + 1, 1, none⟩ = some (.bool t) := (kc2 _ _ (by first | assumption | (simp; done) | omega | (simp; omega))).trans (by first | assumption | (simp [go_sem]; done))
    have v2_1 : w2.frozen? ⟨w.heap.size + 1, 1, none⟩ = false := (kf2 _ _ (by first | assumption | (simp; done) | omega | (simp; omega))).trans (by first | assumption | (simp [go_sem]; done))
    have m2_2 : w2.cell? ⟨w.heap.size, 0, none⟩ = some (.slice A1 l1.length c1) := (kc2 _ _ (by first | assumption | (simp; done) | omega | (simp; omega))).trans (by first | assumption | (simp [go_sem]; done))
    have v2_2 : w2.frozen? ⟨w.heap.size, 0, none⟩ = false := (kf2 _ _ (by first | assumption | (simp; done) | omega | (simp; omega))).trans (by first | assumption | (simp [go_sem]; done))
    have m2_3 : w2.cell? ⟨w.heap.size, 1, none⟩ = some (.bool s1) := (kc2 _ _ (by first | assumption | (simp; done) | omega | (simp; omega))).trans (by first | assumption | (simp [go_sem]; done))
    have v2_3 : w2.frozen? ⟨w.heap.size, 1, none⟩ = false := (kf2 _ _ (by first | assumption | (simp; done) | omega | (simp; omega))).trans (by first | assumption | (simp [go_sem]; done))
    clear kc2 kf2
    clear hb
    have p2 : 0 < l2.length := by rw [E2.out]; exact G1.pos
    go_wp2_with fail
    refine (counted_any B b d t w _ LB.out hcb HBB.out belo).mono ?_
    rintro e w3 ⟨l3, s3, A3, c3, E3, rfl, C3, O3, hb⟩
    replace O2 := hide ((show OwQ (w.heap.size + 3) _ A2 l2 by (repeat (first | with_reducible exact O2.out | with_reducible refine OwQ.far ?_ (by first | (simp; done) | omega | (simp; omega)) _ | with_reducible refine OwQ.allc ?_ _ | with_reducible refine OwQ.drew ?_ | with_reducible refine OwQ.drewN ?_ _))).kept hb)
    replace O1 := hide ((show RG w.heap.size (w.heap.size + 3) _ A1 l1 by (repeat (first | with_reducible exact O1.out | with_reducible refine RG.setc ?_ (by first | (simp; done) | omega | (simp; omega)) (by first | (simp; done) | omega | (simp; omega)) _ | with_reducible refine RG.allc ?_ _ | with_reducible refine RG.drew ?_ | with_reducible refine RG.drewN ?_ _))).kept hb)
    replace O3 := hide (O3.out.lower (show w.heap.size + 3 ≤ _ by first | omega | (simp; omega) | (simp; done)))
    have hB3 : Below w.heap.size w w3 := Below.trans belo (hb.mono (by first | omega | (simp; done) | (simp; omega)))
    obtain ⟨kc3, kf3⟩ := bcell hb
    have hz3 := hb.size
    (try simp at hz3)
    have n3_0 : w.heap.size < w3.heap.size := by omega
    have n3_1 : w.heap.size + 1 < w3.heap.size := by omega
    have n3_2 : w.heap.size + 2 < w3.heap.size := by omega
    have r3_0 : w3.cell? ⟨w.heap.size + 2, 0, none⟩ = some (.slice none 0 0) := (kc3 _ _ (by first | assumption | (simp; done) | omega | (simp; omega))).trans (by first | assumption | (simp [go_sem]; done) | (simp; done))
    have g3_0 : w3.frozen? ⟨w.heap.size + 2, 0, none⟩ = false := (kf3 _ _ (by first | assumption | (simp; done) | omega | (simp; omega))).trans (by first | assumption | (simp [go_sem]; done) | (simp; done))
    have r3_1 : w3.cell? ⟨w.heap.size + 2, 1, none⟩ = some (.bool false) := (kc3 _ _ (by first | assumption | (simp; done) | omega | (simp; omega))).trans (by first | assumption | (simp [go_sem]; done) | (simp; done))
    have g3_1 : w3.frozen? ⟨w.heap.size + 2, 1, none⟩ = false := (kf3 _ _ (by first | assumption | (simp; done) | omega | (simp; omega))).trans (by first | assumption | (simp [go_sem]; done) | (simp; done))
    have m3_0 : w3.cell? ⟨w.heap.size + 1, 0, none⟩ = some (.slice B b.length d) := (kc3 _ _ (by first | assumption | (simp; done) | omega | (simp; omega))).trans (by first | assumption | (simp [go_sem]; done))
    have v3_0 : w3.frozen? ⟨w.heap.size + 1, 0, none⟩ = false := (kf3 _ _ (by first | assumption | (simp; done) | omega | (simp; omega))).trans (by first | assumption | (simp [go_sem]; done))
    have m3_1 : w3.cell? ⟨w.heap.size + 1, 1, none⟩ = some (.bool t) := (kc3 _ _ (by first | assumption | (simp; done) | omega | (simp; omega))).trans (by first | assumption | (simp [go_sem]; done))
    have v3_1 : w3.frozen? ⟨w.heap.size + 1, 1, none⟩ = false := (kf3 _ _ (by first | assumption | (simp; done) | omega | (simp; omega))).trans (by first | assumption | (simp [go_sem]; done))
    have m3_2 : w3.cell? ⟨w.heap.size, 0, none⟩ = some (.slice A1 l1.length c1) := (kc3 _ _ (by first | assumption | (simp; done) | omega | (simp; omega))).trans (by first | assumption | (simp [go_sem]; done))
    have v3_2 : w3.frozen? ⟨w.heap.size, 0, none⟩ = false := (kf3 _ _ (by first | assumption | (simp; done) | omega | (simp; omega))).trans (by first | assumption | (simp [go_sem]; done))
    have m3_3 : w3.cell? ⟨w.heap.size, 1, none⟩ = some (.bool s1) := (kc3 _ _ (by first | assumption | (simp; done) | omega | (simp; omega))).trans (by first | assumption | (simp [go_sem]; done))
    have v3_3 : w3.frozen? ⟨w.heap.size, 1, none⟩ = false := (kf3 _ _ (by first | assumption | (simp; done) | omega | (simp; omega))).trans (by first | assumption | (simp [go_sem]; done))
    clear kc3 kf3
    clear hb
    have G3 : Gd l3 := by have h := cnt_gd (v := ⟨b, t⟩) YB.out; rw [← E3.out] at h; exact h
    have u3 := G3.le
    have p3 := G3.pos
    obtain ⟨g2, e2, hg2, hlt2⟩ := O2.out.lt p2
    go_wp2_with fail
    refine (resized_q A3 l3 c3 k s3 _ p3 (by omega) (by omega) (by refine RG.rd (B0 := w.heap.size) (B1 := w.heap.size + 3) ?_; (repeat (first | with_reducible exact O3.out | with_reducible refine RG.setc ?_ (by first | (simp; done) | omega | (simp; omega)) (by first | (simp; done) | omega | (simp; omega)) _ | with_reducible refine RG.allc ?_ _ | with_reducible refine RG.drew ?_ | with_reducible refine RG.drewN ?_ _)))).mono ?_
    rintro e w4 ⟨l4, A4, c4, E4, rfl, C4, O4, hb⟩
    replace O2 := hide ((show OwQ (w.heap.size + 3) _ A2 l2 by (repeat (first | with_reducible exact O2.out | with_reducible refine OwQ.far ?_ (by first | (simp; done) | omega | (simp; omega)) _ | with_reducible refine OwQ.allc ?_ _ | with_reducible refine OwQ.drew ?_ | with_reducible refine OwQ.drewN ?_ _))).kept hb)
    replace O1 := hide ((show RG w.heap.size (w.heap.size + 3) _ A1 l1 by (repeat (first | with_reducible exact O1.out | with_reducible refine RG.setc ?_ (by first | (simp; done) | omega | (simp; omega)) (by first | (simp; done) | omega | (simp; omega)) _ | with_reducible refine RG.allc ?_ _ | with_reducible refine RG.drew ?_ | with_reducible refine RG.drewN ?_ _))).kept hb)
    replace O3 := hide ((show RG w.heap.size (w.heap.size + 3) _ A3 l3 by (repeat (first | with_reducible exact O3.out | with_reducible refine RG.setc ?_ (by first | (simp; done) | omega | (simp; omega)) (by first | (simp; done) | omega | (simp; omega)) _ | with_reducible refine RG.allc ?_ _ | with_reducible refine RG.drew ?_ | with_reducible refine RG.drewN ?_ _))).kept hb)
    have e4 := hide (show l4 = rsz ⟨l3, s3⟩ k from E4.out)
    have q4 : l4.length = k := by rw [e4.out]; exact ql_length _ _
    obtain ⟨g4, e5, hg4, hlt4⟩ := O4.out.lt (by omega)
    have hne : g2 ≠ g4 := by omega
    replace O4 := hide (O4.out.base (show w.heap.size + 3 ≤ _ by first | omega | (simp; omega) | (simp; done)))
    have hB4 : Below w.heap.size w w4 := Below.trans belo (hb.mono (by first | omega | (simp; done) | (simp; omega)))
    obtain ⟨kc4, kf4⟩ := bcell hb
    have hz4 := hb.size
    (try simp at hz4)
    have n4_0 : w.heap.size < w4.heap.size := by omega
    have n4_1 : w.heap.size + 1 < w4.heap.size := by omega
    have n4_2 : w.heap.size + 2 < w4.heap.size := by omega
    have r4_0 : w4.cell? ⟨w.heap.size + 2, 0, none⟩ = some (.slice none 0 0) := (kc4 _ _ (by first | assumption | (simp; done) | omega | (simp; omega))).trans (by first | assumption | (simp [go_sem]; done) | (simp; done))
    have g4_0 : w4.frozen? ⟨w.heap.size + 2, 0, none⟩ = false := (kf4 _ _ (by first | assumption | (simp; done) | omega | (simp; omega))).trans (by first | assumption | (simp [go_sem]; done) | (simp; done))
    have r4_1 : w4.cell? ⟨w.heap.size + 2, 1, none⟩ = some (.bool false) := (kc4 _ _ (by first | assumption | (simp; done) | omega | (simp; omega))).trans (by first | assumption | (simp [go_sem]; done) | (simp; done))
    have g4_1 : w4.frozen? ⟨w.heap.size + 2, 1, none⟩ = false := (kf4 _ _ (by first | assumption | (simp; done) | omega | (simp; omega))).trans (by first | assumption | (simp [go_sem]; done) | (simp; done))
    have m4_0 : w4.cell? ⟨w.heap.size + 1, 0, none⟩ = some (.slice B b.length d) := (kc4 _ _ (by first | assumption | (simp; done) | omega | (simp; omega))).trans (by first | assumption | (simp [go_sem]; done))
    have v4_0 : w4.frozen? ⟨w.heap.size + 1, 0, none⟩ = false := (kf4 _ _ (by first | assumption | (simp; done) | omega | (simp; omega))).trans (by first | assumption | (simp [go_sem]; done))
    have m4_1 : w4.cell? ⟨w.heap.size + 1, 1, none⟩ = some (.bool t) := (kc4 _ _ (by first | assumption | (simp; done) | omega | (simp; omega))).trans (by first | assumption | (simp [go_sem]; done))
    have v4_1 : w4.frozen? ⟨w.heap.size + 1, 1, none⟩ = false := (kf4 _ _ (by first | assumption | (simp; done) | omega | (simp; omega))).trans (by first | assumption | (simp [go_sem]; done))
    have m4_2 : w4.cell? ⟨w.heap.size, 0, none⟩ = some (.slice A1 l1.length c1) := (kc4 _ _ (by first | assumption | (simp; done) | omega | (simp; omega))).trans (by first | assumption | (simp [go_sem]; done))
    have v4_2 : w4.frozen? ⟨w.heap.size, 0, none⟩ = false := (kf4 _ _ (by first | assumption | (simp; done) | omega | (simp; omega))).trans (by first | assumption | (simp [go_sem]; done))
    have m4_3 : w4.cell? ⟨w.heap.size, 1, none⟩ = some (.bool s1) := (kc4 _ _ (by first | assumption | (simp; done) | omega | (simp; omega))).trans (by first | assumption | (simp [go_sem]; done))
    have v4_3 : w4.frozen? ⟨w.heap.size, 1, none⟩ = false := (kf4 _ _ (by first | assumption | (simp; done) | omega | (simp; omega))).trans (by first | assumption | (simp [go_sem]; done))
    clear kc4 kf4
    clear hb
    obtain ⟨g2a, ea, hB2a, row2⟩ := O2.out p2
    obtain rfl : g2 = g2a := by rw [e2] at ea; injection ea with ea; injection ea
    obtain ⟨g4a, eb, hB4a, row4⟩ := O4.out (by omega)
    obtain rfl : g4 = g4a := by rw [e5] at eb; injection eb with eb; injection eb
    clear O1 O2 O3 O4 ea eb
    subst e2
    subst e5
    have el := E2.out.symm
    subst el
    have hcell : ∀ o : Nat, o < k → w4.cell? ⟨g4, o, none⟩ = some (.int .u8 (qt l4 o)) := fun o ho => row4.cell (by omega)
    have HR2 := hide row2
    have HC4 := hide hcell
    have HB4 := hide hB4
    clear row2 row4 hcell hB4 hB2 hB3 BW
    rcases (show 0 ≤ lo ∨ lo < 0 by omega) with hl | hl
    · obtain ⟨q, rfl⟩ : ∃ q : Nat, lo = q := ⟨lo.toNat, by omega⟩
      go_wp2_with fail
      go_loopw [14] (fun i wr => ∃ j : Nat, (q : Int) ≤ j ∧ i = .int .i64 j ∧ PutQ w w4 g2 l1.length (ptd l1 l4 q k j) wr) (fun i _ => l1.length - (intOf i).toNat)
      case atStart => exact ⟨q, by omega, rfl, (PutQ.start HR2.out HB4.out).congr fun i _ => (ptd_start (by omega) i).symm⟩
      case round =>
        obtain ⟨j, hj, rfl, hR⟩ := hrel
        have hRH := hide hR
        by_cases hlt : (j : Int) ≤ hi ∧ j < l1.length
        · obtain ⟨h5, h6⟩ := hlt
          obtain ⟨z, hz⟩ : ∃ z : Nat, (j : Int) - q = z := ⟨((j : Int) - q).toNat, by omega⟩
          have hzk : z < k := by omega
          have hzl : (z : Int) < (l4.length : Int) := by omega
          have hzn : z < l4.length := by omega
          have hz0 : (0 : Int) ≤ (j : Int) - q := by omega
          have hz1 : (j : Int) - q < (l4.length : Int) := by omega
          have hcp : wr.cell? ⟨g4, z, none⟩ = some (.int .u8 (qt l4 z)) := (hR.cell (p := ⟨g4, z, none⟩) (fun e => hne e.symm)).trans (HC4.out z hzk)
          have hcg : wr.cell? ⟨g2, j, none⟩ = some (.int .u8 (ptd l1 l4 q k j j)) := hR.row.cell h6
          have hfr : wr.frozen? ⟨g2, j, none⟩ = false := hR.row.free j
          clear hR
          rcases Classical.em ((l1.length : Int) - 1 < hi) with hmn | hmn
          all_goals
            go_wp2
            go_roundw
            case rel => exact ⟨j + 1, by omega, by go_num, (hRH.out.step (by omega) j _).congr fun i _ => by have e : z = ((j : Int) - q).toNat := (by omega); rw [e]; exact ptd_step (by omega) (by omega) i⟩
            case measure => simp [intOf]; omega
        · have hm1 : wr.cell? ⟨w.heap.size, 1, none⟩ = some (.bool s1) := (hR.cell (p := ⟨w.heap.size, 1, none⟩) (by show w.heap.size ≠ g2; omega)).trans m4_3
          have hr0 : wr.cell? ⟨w.heap.size + 2, 0, none⟩ = some (.slice none 0 0) := (hR.cell (p := ⟨w.heap.size + 2, 0, none⟩) (by show w.heap.size + 2 ≠ g2; omega)).trans r4_0
          have hr1 : wr.cell? ⟨w.heap.size + 2, 1, none⟩ = some (.bool false) := (hR.cell (p := ⟨w.heap.size + 2, 1, none⟩) (by show w.heap.size + 2 ≠ g2; omega)).trans r4_1
          have hs0 : wr.frozen? ⟨w.heap.size + 2, 0, none⟩ = false := (hR.frozen (p := ⟨w.heap.size + 2, 0, none⟩) (by show w.heap.size + 2 ≠ g2; omega)).trans g4_0
          have hs1 : wr.frozen? ⟨w.heap.size + 2, 1, none⟩ = false := (hR.frozen (p := ⟨w.heap.size + 2, 1, none⟩) (by show w.heap.size + 2 ≠ g2; omega)).trans g4_1
          have hBr : Below w.heap.size w wr := hR.bel
          have hsz : wr.heap.size = w4.heap.size := hR.size
          have OR : OwQ (w.heap.size + 3) wr (some ⟨g2, 0, none⟩) (ql l1.length (ptd l1 l4 q k (hi + 1))) := OwQ.of_row (by rw [ql_length]; exact hR.row.congr fun i hi2 => by rw [qt_ql_lt hi2]; exact ptd_end (by omega) (by omega) i hi2) (by omega)
          replace OR := hide OR
          clear hR
          have h5 : ¬ ((j : Int) ≤ hi ∧ (j : Int) ≤ (l1.length : Int) - 1) := by omega
          rcases Classical.em ((l1.length : Int) - 1 < hi) with hmn | hmn
          all_goals
            have h6 : ¬ ((j : Int) ≤ (if (l1.length : Int) - 1 < hi then (l1.length : Int) - 1 else hi)) := by split <;> omega
            first | rw [if_pos hmn] at h6 | rw [if_neg hmn] at h6
            clear hlt h5
            go_wp2
            refine bodyPost_ret (v := .tuple #[.agg #[.slice (some ⟨g2, 0, none⟩) l1.length c2, .bool s1], .int .i64 0]) (by simp [results, Tryz.results49, go_sem, *]) rfl ?_
            exact ⟨ql l1.length (ptd l1 l4 q k (hi + 1)), s1, some ⟨g2, 0, none⟩, c2, hide (by rw [if_pos rfl, ← E1.out, ← E3.out, ← e4.out]), by rw [ql_length], by rw [ql_length]; exact C2, hide (OwQ.base (B := w.heap.size + 3) (by (repeat (first | with_reducible exact OR.out | with_reducible refine OwQ.far ?_ (by first | (simp; done) | omega | (simp; omega)) _ | with_reducible refine OwQ.allc ?_ _ | with_reducible refine OwQ.drew ?_ | with_reducible refine OwQ.drewN ?_ _))) (by omega)), belo⟩
    · have hl2 := hl
      go_wp2_with fail
      go_loopw [14] (fun i wr => ∃ j : Nat, lo ≤ j ∧ i = .int .i64 j ∧ PutQ w w4 g2 l1.length (ptd l1 l4 lo k j) wr) (fun i _ => l1.length - (intOf i).toNat)
      case atStart => exact ⟨0, by omega, rfl, (PutQ.start HR2.out HB4.out).congr fun i _ => (ptd_start (by omega) i).symm⟩
      case round =>
        obtain ⟨j, hj, rfl, hR⟩ := hrel
        have hRH := hide hR
        by_cases hlt : (j : Int) ≤ hi ∧ j < l1.length
        · obtain ⟨h5, h6⟩ := hlt
          obtain ⟨z, hz⟩ : ∃ z : Nat, (j : Int) - lo = z := ⟨((j : Int) - lo).toNat, by omega⟩
          have hzk : z < k := by omega
          have hzl : (z : Int) < (l4.length : Int) := by omega
          have hzn : z < l4.length := by omega
          have hz0 : (0 : Int) ≤ (j : Int) - lo := by omega
          have hz1 : (j : Int) - lo < (l4.length : Int) := by omega
          have hcp : wr.cell? ⟨g4, z, none⟩ = some (.int .u8 (qt l4 z)) := (hR.cell (p := ⟨g4, z, none⟩) (fun e => hne e.symm)).trans (HC4.out z hzk)
          have hcg : wr.cell? ⟨g2, j, none⟩ = some (.int .u8 (ptd l1 l4 lo k j j)) := hR.row.cell h6
          have hfr : wr.frozen? ⟨g2, j, none⟩ = false := hR.row.free j
          clear hR
          rcases Classical.em ((l1.length : Int) - 1 < hi) with hmn | hmn
          all_goals
            go_wp2
            go_roundw
            case rel => exact ⟨j + 1, by omega, by go_num, (hRH.out.step (by omega) j _).congr fun i _ => by have e : z = ((j : Int) - lo).toNat := (by omega); rw [e]; exact ptd_step (by omega) (by omega) i⟩
            case measure => simp [intOf]; omega
        · have hm1 : wr.cell? ⟨w.heap.size, 1, none⟩ = some (.bool s1) := (hR.cell (p := ⟨w.heap.size, 1, none⟩) (by show w.heap.size ≠ g2; omega)).trans m4_3
          have hr0 : wr.cell? ⟨w.heap.size + 2, 0, none⟩ = some (.slice none 0 0) := (hR.cell (p := ⟨w.heap.size + 2, 0, none⟩) (by show w.heap.size + 2 ≠ g2; omega)).trans r4_0
          have hr1 : wr.cell? ⟨w.heap.size + 2, 1, none⟩ = some (.bool false) := (hR.cell (p := ⟨w.heap.size + 2, 1, none⟩) (by show w.heap.size + 2 ≠ g2; omega)).trans r4_1
          have hs0 : wr.frozen? ⟨w.heap.size + 2, 0, none⟩ = false := (hR.frozen (p := ⟨w.heap.size + 2, 0, none⟩) (by show w.heap.size + 2 ≠ g2; omega)).trans g4_0
          have hs1 : wr.frozen? ⟨w.heap.size + 2, 1, none⟩ = false := (hR.frozen (p := ⟨w.heap.size + 2, 1, none⟩) (by show w.heap.size + 2 ≠ g2; omega)).trans g4_1
          have hBr : Below w.heap.size w wr := hR.bel
          have hsz : wr.heap.size = w4.heap.size := hR.size
          have OR : OwQ (w.heap.size + 3) wr (some ⟨g2, 0, none⟩) (ql l1.length (ptd l1 l4 lo k (hi + 1))) := OwQ.of_row (by rw [ql_length]; exact hR.row.congr fun i hi2 => by rw [qt_ql_lt hi2]; exact ptd_end (by omega) (by omega) i hi2) (by omega)
          replace OR := hide OR
          clear hR
          have h5 : ¬ ((j : Int) ≤ hi ∧ (j : Int) ≤ (l1.length : Int) - 1) := by omega
          rcases Classical.em ((l1.length : Int) - 1 < hi) with hmn | hmn
          all_goals
            have h6 : ¬ ((j : Int) ≤ (if (l1.length : Int) - 1 < hi then (l1.length : Int) - 1 else hi)) := by split <;> omega
            first | rw [if_pos hmn] at h6 | rw [if_neg hmn] at h6
            clear hlt h5
            go_wp2
            refine bodyPost_ret (v := .tuple #[.agg #[.slice (some ⟨g2, 0, none⟩) l1.length c2, .bool s1], .int .i64 0]) (by simp [results, Tryz.results49, go_sem, *]) rfl ?_
            exact ⟨ql l1.length (ptd l1 l4 lo k (hi + 1)), s1, some ⟨g2, 0, none⟩, c2, hide (by rw [if_pos rfl, ← E1.out, ← E3.out, ← e4.out]), by rw [ql_length], by rw [ql_length]; exact C2, hide (OwQ.base (B := w.heap.size + 3) (by (repeat (first | with_reducible exact OR.out | with_reducible refine OwQ.far ?_ (by first | (simp; done) | omega | (simp; omega)) _ | with_reducible refine OwQ.allc ?_ _ | with_reducible refine OwQ.drew ?_ | with_reducible refine OwQ.drewN ?_ _))) (by omega)), belo⟩
  · rw [if_neg h0] at hcall
    go_enter Tryz.func49, Tryz.ntmps49
    go_wp2_with fail
    refine (hcall.out _).mono ?_
    rintro e w' ⟨rfl, rfl⟩
    go_wp2
    refine bodyPost_ret (v := .tuple #[.agg #[.slice none 0 0, .bool false], .int .i64 r]) (by simp [results, Tryz.results49, go_sem, *]) rfl ?_
    exact ⟨[], false, none, 0, hide (by rw [if_neg h0]; exact ⟨rfl, rfl⟩), rfl, hide ⟨Nat.le_refl _, by simp [maxLen]⟩, hide (fun h => absurd h (by simp)), belo⟩
end
section
open Go Go.RowKit
set_option maxRecDepth 100000
set_option linter.unusedSimpArgs false
set_option linter.unusedVariables false
/-- Vectors that read. -/
structure VL (vs : List (Option Addr × List Int)) (w : World) : Prop where
  all : ∀ x ∈ vs, RQ w x.1 x.2
theorem VL.nil (w : World) : VL [] w := ⟨fun x h => by cases h⟩
theorem VL.cons {vs : List (Option Addr × List Int)} {w : World} {A : Option Addr} {l : List Int} (o : RQ w A l) (h : VL vs w) : VL ((A, l) :: vs) w := ⟨fun x hx => by
  rcases List.mem_cons.1 hx with rfl | hx
  · exact o
  · exact h.all x hx⟩
theorem VL.kept {vs : List (Option Addr × List Int)} {w w' : World} (h : VL vs w) (hb : Below w.heap.size w w') : VL vs w' := ⟨fun x hx => (h.all x hx).below hb⟩
theorem VL.at_ {vs : List (Option Addr × List Int)} {w : World} {A : Option Addr} {l : List Int} (h : VL vs w) (i : Nat) (hi : vs[i]? = some (A, l)) : RQ w A l := h.all _ (List.mem_of_getElem? hi)
/-- Bits of any bytes, checked by computation. -/
def byB (l : List Int) : Bool := decide (l.length ≤ 4096) && l.all fun x => decide (0 ≤ x) && decide (x ≤ 255)
theorem by_of {l : List Int} (h : byB l = true) : By l ∧ l.length ≤ 4096 := by
  unfold byB at h
  rw [Bool.and_eq_true, decide_eq_true_eq, List.all_eq_true] at h
  refine ⟨fun i => ?_, h.1⟩
  rcases Nat.lt_or_ge i l.length with hi | hi
  · have := h.2 _ (List.getElem_mem hi)
    rw [Bool.and_eq_true, decide_eq_true_eq, decide_eq_true_eq] at this
    rw [qt_get hi]; exact this
  · rw [qt_ge hi]; decide
theorem gly {l : List Int} {s : Bool} {v : Vc} (e : (⟨l, s⟩ : Vc) = v) (g : Gd v.b) : Hid (l.length ≤ 4096) ∧ Hid (By l) := by
  have e1 : l = v.b := congrArg Vc.b e
  rw [e1]
  exact ⟨hide (Nat.le_trans g.le (by decide)), hide g.by_⟩
theorem rq_nil (w : World) : RQ w none [] := fun h => absurd h (by simp)
section
variable {Q : Exit → Act → World → Prop} {ops : Array Oper} {o o2 : Oper} {rest : List Oper} {x y x0 x1 : Operand} {w W : World} {N d n j : Nat} {E : Env} {l vals : List Value} {T : TypeId} {ρ : Operand → Value} {z0 z1 : Int} {A B : Option Addr} {m c m2 c2 : Nat} {s t : Bool}
theorem run_bsq2 (ho : o.op = .buildSlice 22 2 #[(0, x0), (1, x1)]) (h0 : ρ x0 = .int .u8 z0) (h1 : ρ x1 = .int .u8 z1) : (execOp ρ o).run Tryz.prog w = .ok (.value (.slice (some ⟨w.heap.size, 0, none⟩) 2 2)) (w.alloc (.cells #[.int .u8 z0, .int .u8 z1] 48)) := by
  unfold execOp
  rw [ho]
  simp [go_sem, h0, h1]
theorem wpl_bsq2 (z0 z1 : Int) (hd : o.dst = some d) (hw : wnt ops n E o = true) (ho : o.op = .buildSlice 22 2 #[(0, x0), (1, x1)]) (h0 : evl n E x0 = .int .u8 z0) (h1 : evl n E x1 = .int .u8 z1)
    (h : ∀ (V : World) (A : Option Addr) (l : List Int) (c : Nat), Hid (l = [z0, z1]) → Hid (l.length ≤ c ∧ c ≤ maxLen) → RQ V A l → Below w.heap.size w V → WL Tryz.prog ops Q rest n ((d, .slice A l.length c) :: E) V) : WL Tryz.prog ops Q (o :: rest) n E w :=
  wpl_val hd hw (run_bsq2 ho h0 h1) (h _ (some ⟨w.heap.size, 0, none⟩) [z0, z1] 2 (hide rfl) (hide ⟨Nat.le_refl _, by simp [maxLen]⟩) (fun _ => ⟨_, rfl, by simp, fun i hi => by
    rcases i with _ | _ | i
    · simp [go_sem, qt]
    · simp [go_sem, qt]
    · exact absurd hi (by simp)⟩) ((Below.refl _ _).alloc (Nat.le_refl _) _))
theorem stepR_bsrow {Q : Exit → Act → World → Prop} {fuel kk mk i m' q : Nat} (k : Nat) (vals : List Value) (hi : ops[i]? = some o) (hd : o.dst = some d) (hin : Nat.blt i q = true) (hw : wnt ops kk E o = true) (hm : Nat.lor mk (Nat.shiftLeft 1 i) = m')
    (hr : (execOp (evl kk E) o).run Tryz.prog w = .ok (.value (.slice (some ⟨w.heap.size, 0, none⟩) k k)) (w.alloc (.cells vals.toArray T)))
    (h : ∀ (V : World) (N : Nat), Arr N T vals V → Below w.heap.size w V → anyR Tryz.prog ops Q W q fuel m' kk ((d, .slice (some ⟨N, 0, none⟩) k k) :: E) V) : StepR Tryz.prog ops Q W q fuel mk kk E w i :=
  have hb : Below w.heap.size w (w.alloc (.cells vals.toArray T)) := (Below.refl _ _).alloc (Nat.le_refl _) _
  stepR_val hi hd hin hw hm hr hb (h _ _ ⟨heap_alloc_new w _⟩ hb)
theorem run_ldrow (ho : o.op = .load 66 x) (hx : ρ x = .pointer (some ⟨N, j, none⟩)) (a : Arr N T l w) (h0 : l[j]? = some (.slice A m c)) (h1 : l[j + 1]? = some (.bool s)) (h2 : l[j + 2]? = some (.slice B m2 c2)) (h3 : l[j + 3]? = some (.bool t)) :
    (execOp ρ o).run Tryz.prog w = .ok (.value (.agg #[.slice A m c, .bool s, .slice B m2 c2, .bool t])) w := by
  have e0 := a.cell h0
  have e1 := a.cell h1
  have e2 := a.cell h2
  have e3 := a.cell h3
  unfold execOp
  rw [ho]
  simp only [hx]
  simp [go_sem, e0, e1, e2, e3]
theorem run_alrow (ho : o.op = .alloc 66) : (execOp ρ o).run Tryz.prog w = .ok (.value (.pointer (some ⟨w.heap.size, 0, none⟩))) (w.alloc (.cells #[.slice none 0 0, .bool false, .slice none 0 0, .bool false] 66)) := by
  unfold execOp
  rw [ho]
  simp [go_sem]
theorem run_strow (ho : o.op = .store 66 x y) (hx : ρ x = .pointer (some ⟨w.heap.size, 0, none⟩)) (hy : ρ y = .agg #[.slice A m c, .bool s, .slice B m2 c2, .bool t]) :
    (execOp ρ o).run Tryz.prog (w.alloc (.cells #[.slice none 0 0, .bool false, .slice none 0 0, .bool false] 66)) = .ok .skip (w.alloc (.cells #[.slice A m c, .bool s, .slice B m2 c2, .bool t] 66)) := by
  unfold execOp
  rw [ho]
  simp only [hx, hy]
  simp [go_sem]
theorem wpl_mkrow (hd : o.dst = some d) (hg : o.guard = none) (ho : o.op = .alloc 66) (hd2 : o2.dst = none) (hg2 : o2.guard = none) (ho2 : o2.op = .store 66 x y)
    (hx : ∀ v : Value, evl n ((d, v) :: E) x = v) (hy : ∀ p : Value, evl n ((d, p) :: E) y = .agg #[.slice A m c, .bool s, .slice B m2 c2, .bool t])
    (h : ∀ (V : World) (N : Nat), Arr N 66 [.slice A m c, .bool s, .slice B m2 c2, .bool t] V → Below w.heap.size w V → WL Tryz.prog ops Q rest n ((d, .pointer (some ⟨N, 0, none⟩)) :: E) V) : WL Tryz.prog ops Q (o :: o2 :: rest) n E w :=
  wpl_val hd (by unfold wnt; rw [hg]) (run_alrow ho) (wpl_none hd2 (by unfold wnt; rw [hg2]) (run_strow ho2 (hx _) (hy _)) (h _ w.heap.size ⟨heap_alloc_new w _⟩ ((Below.refl _ _).alloc (Nat.le_refl _) _)))
end
theorem Kp_app {K L E : Env} (h : Kp K E) (k : Kp L E) : Kp (K ++ L) E := by
  induction K with
  | nil => exact k
  | cons p K ih => exact ⟨h.1, ih h.2⟩
def outR (lo hi i : Nat) : Bool := Nat.blt i lo || Nat.blt hi i
theorem Kp_hold {lo hi : Nat} {E E' : Env} (h : ∀ i, outR lo hi i = true → lk E' i = lk E i) : ∀ {K : Env}, (K.all fun p => outR lo hi p.1) = true → Kp K E → Kp K E'
  | [], _, _ => trivial
  | p :: K, hr, hk => by
    rw [List.all_cons, Bool.and_eq_true] at hr
    exact ⟨(h _ hr.1).trans hk.1, Kp_hold h hr.2 hk.2⟩
theorem lk_drop {lo hi : Nat} : ∀ (c : Nat) (E : Env), ((E.take c).all fun p => !outR lo hi p.1) = true → ∀ i, outR lo hi i = true → lk E i = lk (E.drop c) i
  | 0, E, _, i, _ => rfl
  | c + 1, [], _, i, _ => rfl
  | c + 1, p :: E, hr, i, hi' => by
    obtain ⟨d, v⟩ := p
    rw [List.take_succ_cons, List.all_cons, Bool.and_eq_true] at hr
    rw [lk_cons, if_neg (fun e => by rw [e] at hi'; rw [hi'] at hr; exact absurd hr.1 (by decide))]
    exact lk_drop c E hr.2 i hi'
theorem anyR_keep {P : Program} {ops : Array Oper} {Q : Exit → Act → World → Prop} {W w : World} {n fuel m k : Nat} {E : Env} (K : Env) (hk : Kp K E) (h : anyR P ops Q W n fuel m k (K ++ E) w) : anyR P ops Q W n fuel m k E w := by
  unfold anyR anyE at h ⊢
  rw [sl_keep hk]
  exact h
def codesOf : Code → List Code
  | .seq a b => codesOf a ++ codesOf b
  | .cond _ a b => codesOf a ++ codesOf b
  | .block _ b => codesOf b
  | .loop b => codesOf b
  | .scope b => codesOf b
  | .region i ops d => [.region i ops d]
  | _ => []
def drawnOf (c : Code) : List Code := (codesOf c).filter fun | .region _ _ d => d | _ => false
/-- From one place of a drawn region to another. -/
def CH (c : Code) (N k : Nat) (Q : Exit → Act → World → Prop) (W : World) (f1 m1 f2 m2 : Nat) (E1 : Env) (w1 : World) (Cont : (Env → World → Prop) → Prop) : Prop :=
  match c with
  | .region _ ops _ => Rg ops N → (∀ c a d v w, Q (.panic c) (Act.put a (some d) v) w → Q (.panic c) a w) → Cont (fun E' w' => anyR Tryz.prog ops Q W N f2 m2 k E' w') → anyR Tryz.prog ops Q W N f1 m1 k E1 w1
  | _ => True
theorem xMatchZ (q : Bool) (A B : Option Addr) (a b : List Int) (c d : Nat) (s t : Bool) (w : World) (ha : a.length ≤ 4096) (hb : b.length ≤ 4096) (hca : Hid (a.length ≤ c ∧ c ≤ maxLen)) (hcb : Hid (b.length ≤ d ∧ d ≤ maxLen)) (hA : RQ w A a) (hB : RQ w B b) (ya : By a) (yb : By b) (h : mtc alZ ⟨a, s⟩ ⟨b, t⟩ = q) :
    Calls Tryz.prog 21 #[.agg #[.slice A a.length c, .bool s], .agg #[.slice B b.length d, .bool t]] w (Mk (.bool q) w) := by
  rw [← h]; exact vMatchZ_any A B a b c d s t w ha hb hca hcb hA hB ya yb
theorem xMatchX (q : Bool) (A B : Option Addr) (a b : List Int) (c d : Nat) (s t : Bool) (w : World) (ha : a.length ≤ 4096) (hb : b.length ≤ 4096) (hca : Hid (a.length ≤ c ∧ c ≤ maxLen)) (hcb : Hid (b.length ≤ d ∧ d ≤ maxLen)) (hA : RQ w A a) (hB : RQ w B b) (ya : By a) (yb : By b) (h : mtc alX ⟨a, s⟩ ⟨b, t⟩ = q) :
    Calls Tryz.prog 23 #[.agg #[.slice A a.length c, .bool s], .agg #[.slice B b.length d, .bool t]] w (Mk (.bool q) w) := by
  rw [← h]; exact vMatchX_any A B a b c d s t w ha hb hca hcb hA hB ya yb
theorem xLeq (q : Bool) (A B : Option Addr) (a b : List Int) (c d : Nat) (s t : Bool) (w : World) (ha : a.length ≤ 4096) (hb : b.length ≤ 4096) (hca : Hid (a.length ≤ c ∧ c ≤ maxLen)) (hcb : Hid (b.length ≤ d ∧ d ≤ maxLen)) (hA : RQ w A a) (hB : RQ w B b) (ya : By a) (yb : By b) (h : leqV (cnt ⟨a, s⟩) (cnt ⟨b, t⟩) = q) :
    Calls Tryz.prog 33 #[.agg #[.slice A a.length c, .bool s], .agg #[.slice B b.length d, .bool t]] w (Mk (.bool q) w) := by
  rw [← h]; exact vLeq_any A B a b c d s t w ha hb hca hcb hA hB ya yb
theorem xTruth (z : Int) (A : Option Addr) (a : List Int) (c : Nat) (s : Bool) (w : World) (ha : a.length ≤ 4096) (hca : Hid (a.length ≤ c ∧ c ≤ maxLen)) (hA : RQ w A a) (ya : By a) (ht : Tabs w) (h : tr ⟨a, s⟩ = z) :
    Calls Tryz.prog 35 #[.agg #[.slice A a.length c, .bool s]] w (Mk (.int .u8 z) w) := by
  rw [← h]; exact truth_any A a c s w ha hca hA ya ht
theorem xCheck (z : Int) (A : Option Addr) (a : List Int) (c : Nat) (s : Bool) (w : World) (ha : a.length ≤ 4096) (hA : RQ w A a) (h : chk a = z) :
    Calls Tryz.prog 28 #[.agg #[.slice A a.length c, .bool s]] w (Mk (.int .i64 z) w) := by
  rw [← h]; exact check_any A a c s w ha hA
theorem xInt (z : Int) (q : Bool) (A : Option Addr) (a : List Int) (c : Nat) (s : Bool) (w : World) (ha : a.length ≤ 4096) (hca : Hid (a.length ≤ c ∧ c ≤ maxLen)) (hA : RQ w A a) (ya : By a) (hk : kn (cnt ⟨a, s⟩).b = true)
    (hz : (if -9223372036854775808 ≤ sv (nx (cnt ⟨a, s⟩).b (cnt ⟨a, s⟩).s) ∧ sv (nx (cnt ⟨a, s⟩).b (cnt ⟨a, s⟩).s) ≤ 9223372036854775807 then (sv (nx (cnt ⟨a, s⟩).b (cnt ⟨a, s⟩).s), true) else (0, false)) = (z, q)) :
    Calls Tryz.prog 24 #[.agg #[.slice A a.length c, .bool s]] w (Mk (.tuple #[.int .i64 z, .bool q]) w) :=
  (vInt_any A a c s w ha hca hA ya).mono fun e w' h => ⟨by
    have h1 := h.1
    unfold IntV at h1
    rw [if_pos hk] at h1
    unfold IntA at h1
    rcases h1 with ⟨p, q2, rfl⟩ | ⟨p, rfl⟩
    · rw [if_pos ⟨p, q2⟩] at hz
      injection hz with e1 e2
      rw [e1, ← e2]
    · rw [if_neg p] at hz
      injection hz with e1 e2
      rw [← e1, ← e2], h.2⟩
theorem xFromE (z n : Int) (s : Bool) (w : World) (h1 : -9223372036854775808 ≤ z) (h2 : z ≤ 9223372036854775807) (h : (if 1 ≤ n ∧ n ≤ 128 then (0 : Int) else 12) = 12) :
    Calls Tryz.prog 37 #[.int .i64 z, .int .i64 n, .bool s] w (RetE 12 ⟨fb (vz n.toNat z), s⟩ w) := by
  have e := vFromInt_any z n s w h1 h2
  rw [h] at e
  exact e
theorem xUnknownE (n : Int) (s : Bool) (w : World) (h : (if 1 ≤ n ∧ n ≤ 128 then (0 : Int) else 12) = 12) :
    Calls Tryz.prog 39 #[.int .i64 n, .bool s] w (RetE 12 (xs n.toNat s) w) := by
  have e := vUnknown_any n s w
  rw [h] at e
  exact e
theorem xResize (z n : Int) (A : Option Addr) (a : List Int) (c : Nat) (s : Bool) (w : World) (ha : a.length ≤ 4096) (hca : Hid (a.length ≤ c ∧ c ≤ maxLen)) (hA : RQ w A a) (ya : By a) (h : (if 1 ≤ n ∧ n ≤ 128 then (0 : Int) else 12) = z) :
    Calls Tryz.prog 41 #[.agg #[.slice A a.length c, .bool s], .int .i64 n] w (RetE z ⟨rsz (cnt ⟨a, s⟩) n.toNat, (cnt ⟨a, s⟩).s⟩ w) := by
  rw [← h]; exact vResize_any n A a c s w ha hca hA ya
theorem xRepeat (z n : Int) (A : Option Addr) (a : List Int) (c : Nat) (s : Bool) (w : World) (ha : a.length ≤ 4096) (hca : Hid (a.length ≤ c ∧ c ≤ maxLen)) (hA : RQ w A a) (ya : By a) (h : rpe n (cnt ⟨a, s⟩).b.length = z) :
    Calls Tryz.prog 45 #[.agg #[.slice A a.length c, .bool s], .int .i64 n] w (RetE z ⟨ql ((cnt ⟨a, s⟩).b.length * n.toNat) fun i => qt (cnt ⟨a, s⟩).b (i % (cnt ⟨a, s⟩).b.length), false⟩ w) := by
  rw [← h]; exact vRepeat_any n A a c s w ha hca hA ya
theorem xSlice (z hi lo : Int) (A : Option Addr) (a : List Int) (c : Nat) (s : Bool) (w : World) (ha : a.length ≤ 4096) (hca : Hid (a.length ≤ c ∧ c ≤ maxLen)) (hA : RQ w A a) (ya : By a) (b1 : -9223372036854775808 ≤ lo) (b2 : hi ≤ 9223372036854775807) (b3 : -9223372036854775808 ≤ hi) (b4 : lo ≤ 9223372036854775807) (h : spn hi lo = z) :
    Calls Tryz.prog 47 #[.agg #[.slice A a.length c, .bool s], .int .i64 hi, .int .i64 lo] w (RetE z ⟨wdw (cnt ⟨a, s⟩).b lo (hi - lo + 1).toNat 2, false⟩ w) := by
  rw [← h]; exact vSlice_any hi lo A a c s w ha hca hA ya b1 b2 b3 b4
theorem xPut (z hi lo : Int) (A B : Option Addr) (a b : List Int) (c d : Nat) (s t : Bool) (w : World) (ha : a.length ≤ 4096) (hb : b.length ≤ 4096) (hca : Hid (a.length ≤ c ∧ c ≤ maxLen)) (hcb : Hid (b.length ≤ d ∧ d ≤ maxLen)) (hA : RQ w A a) (hB : RQ w B b) (ya : By a) (yb : By b) (b1 : -9223372036854775808 ≤ lo) (b2 : hi ≤ 9223372036854775807) (b3 : -9223372036854775808 ≤ hi) (b4 : lo ≤ 9223372036854775807) (h : spn hi lo = z) :
    Calls Tryz.prog 49 #[.agg #[.slice A a.length c, .bool s], .int .i64 hi, .int .i64 lo, .agg #[.slice B b.length d, .bool t]] w (RetE z (vPut ⟨a, s⟩ ⟨b, t⟩ hi lo) w) := by
  rw [← h]; exact vPut_any hi lo A B a b c d s t w ha hb hca hcb hA hB ya yb b1 b2 b3 b4
theorem xConcat (z : Int) (g c : Nat) (vs : List Va) (w : World) (hg : g < w.heap.size) (h0 : 0 < vs.length) (hn : vs.length ≤ 4096) (hv : Vrow w g vs) (he : cte (vcs vs) = z) :
    Calls Tryz.prog 43 #[.slice (some ⟨g, 0, none⟩) vs.length c] w (RetE z ⟨cats (vcs vs), false⟩ w) := by
  rw [← he]; exact vConcat_any g c vs w hg h0 hn hv
end
section
open Go.RowKit
set_option maxRecDepth 100000
set_option linter.unusedSimpArgs false
set_option linter.unusedVariables false
/-- A function value that judges an order. -/
structure Judge (N : Nat) (h : Int → Bool) : Prop where
  cf : Ent N
  ct : ∀ z w, Calls Tryz.prog N #[.int .i64 z] w fun e w' => e = .returned (.bool (h z)) ∧ w = w'
theorem judge_lt : Judge 164 (fun z => decide (z < 0)) := by
  refine ⟨Tryz.call164, fun z w => ?_⟩
  go_enter Tryz.func164, Tryz.ntmps164
  go_wp2
  go_ret
  exact ⟨rfl, rfl⟩
theorem judge_le : Judge 166 (fun z => decide (z ≤ 0)) := by
  refine ⟨Tryz.call166, fun z w => ?_⟩
  go_enter Tryz.func166, Tryz.ntmps166
  go_wp2
  go_ret
  exact ⟨rfl, rfl⟩
theorem judge_gt : Judge 167 (fun z => decide (0 < z)) := by
  refine ⟨Tryz.call167, fun z w => ?_⟩
  go_enter Tryz.func167, Tryz.ntmps167
  go_wp2
  go_ret
  exact ⟨rfl, rfl⟩
theorem judge_ge : Judge 165 (fun z => decide (0 ≤ z)) := by
  refine ⟨Tryz.call165, fun z w => ?_⟩
  go_enter Tryz.func165, Tryz.ntmps165
  go_wp2
  go_ret
  exact ⟨rfl, rfl⟩
set_option maxHeartbeats 2000000 in
theorem compare_any (N : Nat) (h : Int → Bool) (hop : Judge N h) (A B : Option Addr) (a b : List Int) (c d : Nat) (s t : Bool) (w : World) (ha : a.length ≤ 4096) (hb : b.length ≤ 4096) (hca : Hid (a.length ≤ c ∧ c ≤ maxLen)) (hcb : Hid (b.length ≤ d ∧ d ≤ maxLen)) (hA : RQ w A a) (hB : RQ w B b) (ya : By a) (yb : By b) :
    Calls Tryz.prog 163 #[.agg #[.slice A a.length c, .bool s], .agg #[.slice B b.length d, .bool t], .func (.func N) #[] #[]] w (RetC (· = vCmp h ⟨a, s⟩ ⟨b, t⟩) w) := by
  have hcf : ∀ args w, (callFunc N args).run Tryz.prog w = .ok (.enter N args) w := hop.cf
  have HO := hide hop
  have hwd := wd_bd (a := ⟨a, s⟩) (b := ⟨b, t⟩) ya yb
  have HA := hide hA
  have HBB := hide hB
  have LA := hide ha
  have LB := hide hb
  have YA := hide ya
  have YB := hide yb
  clear hA hB ha hb ya yb
  clear hop
  obtain ⟨n, hn⟩ : ∃ n, n = wd ⟨a, s⟩ ⟨b, t⟩ := ⟨_, rfl⟩
  have hcall := hide fun W (hW : Below w.heap.size w W) => balance_any A B a b c d s t W LA.out LB.out hca hcb (HA.out.below hW) (HBB.out.below hW) YA.out YB.out
  unfold RetB at hcall
  obtain ⟨σ, hσ⟩ : ∃ σ, σ = sg ⟨a, s⟩ ⟨b, t⟩ := ⟨_, rfl⟩
  rw [← hσ] at hcall
  obtain ⟨R, hR⟩ : ∃ R, R = vCmp h ⟨a, s⟩ ⟨b, t⟩ := ⟨_, rfl⟩
  rw [← hR]
  unfold vCmp cpr at hR
  rw [← hσ] at hR
  rw [← hn] at hwd
  have HN := hide hn
  have HR := hide hR
  clear hn hσ hR
  go_enter Tryz.func163, Tryz.ntmps163
  go_wp2_with fail
  refine (hcall.out _ belo).mono ?_
  rintro e w1 ⟨p, P, pc, q, Q, qc, Ep, Eq, rfl, Cp, Cq, Op, Oq, -, hb⟩
  replace Op := hide (Op.out.base (show w.heap.size + 3 ≤ _ by first | omega | (simp; omega) | (simp; done)))
  replace Oq := hide (Oq.out.base (show w.heap.size + 3 ≤ _ by first | omega | (simp; omega) | (simp; done)))
  have hB1 : Below w.heap.size w w1 := Below.trans belo (hb.mono (by first | omega | (simp; done) | (simp; omega)))
  obtain ⟨kc1, kf1⟩ := bcell hb
  have hz1 := hb.size
  (try simp at hz1)
  have n1_0 : w.heap.size < w1.heap.size := by omega
  have n1_1 : w.heap.size + 1 < w1.heap.size := by omega
  have n1_2 : w.heap.size + 2 < w1.heap.size := by omega
  have r1_0 : w1.cell? ⟨w.heap.size + 2, 0, none⟩ = some (.slice none 0 0) := (kc1 _ _ (by first | assumption | (simp; done) | omega | (simp; omega))).trans (by first | assumption | (simp [go_sem]; done) | (simp; done))
  have g1_0 : w1.frozen? ⟨w.heap.size + 2, 0, none⟩ = false := (kf1 _ _ (by first | assumption | (simp; done) | omega | (simp; omega))).trans (by first | assumption | (simp [go_sem]; done) | (simp; done))
  have r1_1 : w1.cell? ⟨w.heap.size + 2, 1, none⟩ = some (.bool false) := (kc1 _ _ (by first | assumption | (simp; done) | omega | (simp; omega))).trans (by first | assumption | (simp [go_sem]; done) | (simp; done))
  have g1_1 : w1.frozen? ⟨w.heap.size + 2, 1, none⟩ = false := (kf1 _ _ (by first | assumption | (simp; done) | omega | (simp; omega))).trans (by first | assumption | (simp [go_sem]; done) | (simp; done))
  clear hb
  have lp : p.length = n := by rw [Ep.out, blA_length, HN.out]
  have lq : q.length = n := by rw [Eq.out, blB_length, HN.out]
  rw [← Ep.out, ← Eq.out] at HR
  have L1 : p.length ≤ 4096 := by omega
  have L2 : q.length ≤ 4096 := by omega
  have L3 : 0 < p.length := by omega
  clear lp lq
  have k1 := hide (known_any P p pc w1 L1 Op.out.rd)
  have k2 := hide (known_any Q q qc w1 L2 Oq.out.rd)
  cases hk1 : kn p
  · rw [hk1] at k1 HR
    clear hk1
    go_wp2_with fail
    refine (k1.out).mono ?_
    rintro e w' ⟨rfl, rfl⟩
    go_wp2_with fail
    refine (single_any _ _).mono ?_
    rintro e w2 ⟨l1, s1, A1, c1, E1, rfl, C1, O1, hb⟩
    replace Op := hide ((show OwQ (w.heap.size + 3) _ _ _ by (repeat (first | with_reducible exact Op.out | with_reducible refine OwQ.far ?_ (by first | (simp; done) | omega | (simp; omega)) _ | with_reducible refine OwQ.allc ?_ _ | with_reducible refine OwQ.drew ?_ | with_reducible refine OwQ.drewN ?_ _))).kept hb)
    replace Oq := hide ((show OwQ (w.heap.size + 3) _ _ _ by (repeat (first | with_reducible exact Oq.out | with_reducible refine OwQ.far ?_ (by first | (simp; done) | omega | (simp; omega)) _ | with_reducible refine OwQ.allc ?_ _ | with_reducible refine OwQ.drew ?_ | with_reducible refine OwQ.drewN ?_ _))).kept hb)
    replace O1 := hide (O1.out.base (show w.heap.size + 3 ≤ _ by first | omega | (simp; omega) | (simp; done)))
    have hB2 : Below w.heap.size w w2 := Below.trans belo (hb.mono (by first | omega | (simp; done) | (simp; omega)))
    obtain ⟨kc2, kf2⟩ := bcell hb
    have hz2 := hb.size
    (try simp at hz2)
    have n2_0 : w.heap.size < w2.heap.size := by omega
    have n2_1 : w.heap.size + 1 < w2.heap.size := by omega
    have n2_2 : w.heap.size + 2 < w2.heap.size := by omega
    have r2_0 : w2.cell? ⟨w.heap.size + 2, 0, none⟩ = some (.slice none 0 0) := (kc2 _ _ (by first | assumption | (simp; done) | omega | (simp; omega))).trans (by first | assumption | (simp [go_sem]; done) | (simp; done))
    have g2_0 : w2.frozen? ⟨w.heap.size + 2, 0, none⟩ = false := (kf2 _ _ (by first | assumption | (simp; done) | omega | (simp; omega))).trans (by first | assumption | (simp [go_sem]; done) | (simp; done))
    have r2_1 : w2.cell? ⟨w.heap.size + 2, 1, none⟩ = some (.bool false) := (kc2 _ _ (by first | assumption | (simp; done) | omega | (simp; omega))).trans (by first | assumption | (simp [go_sem]; done) | (simp; done))
    have g2_1 : w2.frozen? ⟨w.heap.size + 2, 1, none⟩ = false := (kf2 _ _ (by first | assumption | (simp; done) | omega | (simp; omega))).trans (by first | assumption | (simp [go_sem]; done) | (simp; done))
    clear hb
    go_wp2
    refine bodyPost_ret (v := .agg #[.slice A1 l1.length c1, .bool s1]) (by simp [results, Tryz.results163, go_sem, *]) rfl ?_
    exact ⟨l1, s1, A1, c1, hide (E1.out.trans (by rw [HR.out]; simp)), rfl, C1, hide (OwQ.base (B := w.heap.size + 3) (by (repeat (first | with_reducible exact O1.out | with_reducible refine OwQ.far ?_ (by first | (simp; done) | omega | (simp; omega)) _ | with_reducible refine OwQ.allc ?_ _ | with_reducible refine OwQ.drew ?_ | with_reducible refine OwQ.drewN ?_ _))) (by omega)), belo⟩
  · cases hk2 : kn q
    · rw [hk1] at k1 HR
      rw [hk2] at k2 HR
      clear hk1 hk2
      go_wp2_with fail
      refine (k1.out).mono ?_
      rintro e w' ⟨rfl, rfl⟩
      go_wp2_with fail
      refine (k2.out).mono ?_
      rintro e w' ⟨rfl, rfl⟩
      go_wp2_with fail
      refine (single_any _ _).mono ?_
      rintro e w2 ⟨l1, s1, A1, c1, E1, rfl, C1, O1, hb⟩
      replace Op := hide ((show OwQ (w.heap.size + 3) _ _ _ by (repeat (first | with_reducible exact Op.out | with_reducible refine OwQ.far ?_ (by first | (simp; done) | omega | (simp; omega)) _ | with_reducible refine OwQ.allc ?_ _ | with_reducible refine OwQ.drew ?_ | with_reducible refine OwQ.drewN ?_ _))).kept hb)
      replace Oq := hide ((show OwQ (w.heap.size + 3) _ _ _ by (repeat (first | with_reducible exact Oq.out | with_reducible refine OwQ.far ?_ (by first | (simp; done) | omega | (simp; omega)) _ | with_reducible refine OwQ.allc ?_ _ | with_reducible refine OwQ.drew ?_ | with_reducible refine OwQ.drewN ?_ _))).kept hb)
      replace O1 := hide (O1.out.base (show w.heap.size + 3 ≤ _ by first | omega | (simp; omega) | (simp; done)))
      have hB2 : Below w.heap.size w w2 := Below.trans belo (hb.mono (by first | omega | (simp; done) | (simp; omega)))
      obtain ⟨kc2, kf2⟩ := bcell hb
      have hz2 := hb.size
      (try simp at hz2)
      have n2_0 : w.heap.size < w2.heap.size := by omega
      have n2_1 : w.heap.size + 1 < w2.heap.size := by omega
      have n2_2 : w.heap.size + 2 < w2.heap.size := by omega
      have r2_0 : w2.cell? ⟨w.heap.size + 2, 0, none⟩ = some (.slice none 0 0) := (kc2 _ _ (by first | assumption | (simp; done) | omega | (simp; omega))).trans (by first | assumption | (simp [go_sem]; done) | (simp; done))
      have g2_0 : w2.frozen? ⟨w.heap.size + 2, 0, none⟩ = false := (kf2 _ _ (by first | assumption | (simp; done) | omega | (simp; omega))).trans (by first | assumption | (simp [go_sem]; done) | (simp; done))
      have r2_1 : w2.cell? ⟨w.heap.size + 2, 1, none⟩ = some (.bool false) := (kc2 _ _ (by first | assumption | (simp; done) | omega | (simp; omega))).trans (by first | assumption | (simp [go_sem]; done) | (simp; done))
      have g2_1 : w2.frozen? ⟨w.heap.size + 2, 1, none⟩ = false := (kf2 _ _ (by first | assumption | (simp; done) | omega | (simp; omega))).trans (by first | assumption | (simp [go_sem]; done) | (simp; done))
      clear hb
      go_wp2
      refine bodyPost_ret (v := .agg #[.slice A1 l1.length c1, .bool s1]) (by simp [results, Tryz.results163, go_sem, *]) rfl ?_
      exact ⟨l1, s1, A1, c1, hide (E1.out.trans (by rw [HR.out]; simp)), rfl, C1, hide (OwQ.base (B := w.heap.size + 3) (by (repeat (first | with_reducible exact O1.out | with_reducible refine OwQ.far ?_ (by first | (simp; done) | omega | (simp; omega)) _ | with_reducible refine OwQ.allc ?_ _ | with_reducible refine OwQ.drew ?_ | with_reducible refine OwQ.drewN ?_ _))) (by omega)), belo⟩
    · rw [hk1] at k1 HR
      rw [hk2] at k2 HR
      clear hk1 hk2
      cases σ
      · go_wp2_with fail
        refine (k1.out).mono ?_
        rintro e w' ⟨rfl, rfl⟩
        go_wp2_with fail
        refine (k2.out).mono ?_
        rintro e w' ⟨rfl, rfl⟩
        go_wp2_with fail
        refine (number_q P p pc _ L1 Op.out.rd).mono ?_
        rintro e w2 ⟨lm, Am, cm, Em, rfl, Cm, Om, hb⟩
        replace Op := hide ((show OwQ (w.heap.size + 3) _ _ _ by (repeat (first | with_reducible exact Op.out | with_reducible refine OwQ.far ?_ (by first | (simp; done) | omega | (simp; omega)) _ | with_reducible refine OwQ.allc ?_ _ | with_reducible refine OwQ.drew ?_ | with_reducible refine OwQ.drewN ?_ _))).kept hb)
        replace Oq := hide ((show OwQ (w.heap.size + 3) _ _ _ by (repeat (first | with_reducible exact Oq.out | with_reducible refine OwQ.far ?_ (by first | (simp; done) | omega | (simp; omega)) _ | with_reducible refine OwQ.allc ?_ _ | with_reducible refine OwQ.drew ?_ | with_reducible refine OwQ.drewN ?_ _))).kept hb)
        replace Om := hide Om.out.rd
        have hB2 : Below w.heap.size w w2 := Below.trans belo (hb.mono (by first | omega | (simp; done) | (simp; omega)))
        obtain ⟨kc2, kf2⟩ := bcell hb
        have hz2 := hb.size
        (try simp at hz2)
        have n2_0 : w.heap.size < w2.heap.size := by omega
        have n2_1 : w.heap.size + 1 < w2.heap.size := by omega
        have n2_2 : w.heap.size + 2 < w2.heap.size := by omega
        have r2_0 : w2.cell? ⟨w.heap.size + 2, 0, none⟩ = some (.slice none 0 0) := (kc2 _ _ (by first | assumption | (simp; done) | omega | (simp; omega))).trans (by first | assumption | (simp [go_sem]; done) | (simp; done))
        have g2_0 : w2.frozen? ⟨w.heap.size + 2, 0, none⟩ = false := (kf2 _ _ (by first | assumption | (simp; done) | omega | (simp; omega))).trans (by first | assumption | (simp [go_sem]; done) | (simp; done))
        have r2_1 : w2.cell? ⟨w.heap.size + 2, 1, none⟩ = some (.bool false) := (kc2 _ _ (by first | assumption | (simp; done) | omega | (simp; omega))).trans (by first | assumption | (simp [go_sem]; done) | (simp; done))
        have g2_1 : w2.frozen? ⟨w.heap.size + 2, 1, none⟩ = false := (kf2 _ _ (by first | assumption | (simp; done) | omega | (simp; omega))).trans (by first | assumption | (simp [go_sem]; done) | (simp; done))
        clear hb
        go_wp2_with fail
        refine (number_q Q q qc _ L2 Oq.out.rd).mono ?_
        rintro e w3 ⟨lk, Ak, ck, Ek, rfl, Ck, Ok, hb⟩
        replace Op := hide ((show OwQ (w.heap.size + 3) _ _ _ by (repeat (first | with_reducible exact Op.out | with_reducible refine OwQ.far ?_ (by first | (simp; done) | omega | (simp; omega)) _ | with_reducible refine OwQ.allc ?_ _ | with_reducible refine OwQ.drew ?_ | with_reducible refine OwQ.drewN ?_ _))).kept hb)
        replace Oq := hide ((show OwQ (w.heap.size + 3) _ _ _ by (repeat (first | with_reducible exact Oq.out | with_reducible refine OwQ.far ?_ (by first | (simp; done) | omega | (simp; omega)) _ | with_reducible refine OwQ.allc ?_ _ | with_reducible refine OwQ.drew ?_ | with_reducible refine OwQ.drewN ?_ _))).kept hb)
        replace Om := hide (Om.out.below hb)
        replace Ok := hide Ok.out.rd
        have hB3 : Below w.heap.size w w3 := Below.trans belo (hb.mono (by first | omega | (simp; done) | (simp; omega)))
        obtain ⟨kc3, kf3⟩ := bcell hb
        have hz3 := hb.size
        (try simp at hz3)
        have n3_0 : w.heap.size < w3.heap.size := by omega
        have n3_1 : w.heap.size + 1 < w3.heap.size := by omega
        have n3_2 : w.heap.size + 2 < w3.heap.size := by omega
        have r3_0 : w3.cell? ⟨w.heap.size + 2, 0, none⟩ = some (.slice none 0 0) := (kc3 _ _ (by first | assumption | (simp; done) | omega | (simp; omega))).trans (by first | assumption | (simp [go_sem]; done) | (simp; done))
        have g3_0 : w3.frozen? ⟨w.heap.size + 2, 0, none⟩ = false := (kf3 _ _ (by first | assumption | (simp; done) | omega | (simp; omega))).trans (by first | assumption | (simp [go_sem]; done) | (simp; done))
        have r3_1 : w3.cell? ⟨w.heap.size + 2, 1, none⟩ = some (.bool false) := (kc3 _ _ (by first | assumption | (simp; done) | omega | (simp; omega))).trans (by first | assumption | (simp [go_sem]; done) | (simp; done))
        have g3_1 : w3.frozen? ⟨w.heap.size + 2, 1, none⟩ = false := (kf3 _ _ (by first | assumption | (simp; done) | omega | (simp; omega))).trans (by first | assumption | (simp [go_sem]; done) | (simp; done))
        clear hb
        have em : lm.length ≤ 4096 := by rw [Em.out, nb_length]; exact L1
        have ek : lk.length ≤ 4096 := by rw [Ek.out, nb_length]; exact L2
        go_wp2_with fail
        refine (cmp_any Am Ak lm lk cm ck _ em ek Om.out Ok.out).mono ?_
        rintro e w' ⟨rfl, rfl⟩
        go_wp2_with fail
        refine (HO.out.ct _ _).mono ?_
        rintro e w' ⟨rfl, rfl⟩
        go_wp2_with fail
        refine (from_q _ _).mono ?_
        rintro e w' ⟨rfl, rfl⟩
        go_wp2_with fail
        refine (single_any _ _).mono ?_
        rintro e w4 ⟨l1, s1, A1, c1, E1, rfl, C1, O1, hb⟩
        replace Op := hide ((show OwQ (w.heap.size + 3) _ _ _ by (repeat (first | with_reducible exact Op.out | with_reducible refine OwQ.far ?_ (by first | (simp; done) | omega | (simp; omega)) _ | with_reducible refine OwQ.allc ?_ _ | with_reducible refine OwQ.drew ?_ | with_reducible refine OwQ.drewN ?_ _))).kept hb)
        replace Oq := hide ((show OwQ (w.heap.size + 3) _ _ _ by (repeat (first | with_reducible exact Oq.out | with_reducible refine OwQ.far ?_ (by first | (simp; done) | omega | (simp; omega)) _ | with_reducible refine OwQ.allc ?_ _ | with_reducible refine OwQ.drew ?_ | with_reducible refine OwQ.drewN ?_ _))).kept hb)
        replace Om := hide (Om.out.below hb)
        replace Ok := hide (Ok.out.below hb)
        replace O1 := hide (O1.out.base (show w.heap.size + 3 ≤ _ by first | omega | (simp; omega) | (simp; done)))
        have hB4 : Below w.heap.size w w4 := Below.trans belo (hb.mono (by first | omega | (simp; done) | (simp; omega)))
        obtain ⟨kc4, kf4⟩ := bcell hb
        have hz4 := hb.size
        (try simp at hz4)
        have n4_0 : w.heap.size < w4.heap.size := by omega
        have n4_1 : w.heap.size + 1 < w4.heap.size := by omega
        have n4_2 : w.heap.size + 2 < w4.heap.size := by omega
        have r4_0 : w4.cell? ⟨w.heap.size + 2, 0, none⟩ = some (.slice none 0 0) := (kc4 _ _ (by first | assumption | (simp; done) | omega | (simp; omega))).trans (by first | assumption | (simp [go_sem]; done) | (simp; done))
        have g4_0 : w4.frozen? ⟨w.heap.size + 2, 0, none⟩ = false := (kf4 _ _ (by first | assumption | (simp; done) | omega | (simp; omega))).trans (by first | assumption | (simp [go_sem]; done) | (simp; done))
        have r4_1 : w4.cell? ⟨w.heap.size + 2, 1, none⟩ = some (.bool false) := (kc4 _ _ (by first | assumption | (simp; done) | omega | (simp; omega))).trans (by first | assumption | (simp [go_sem]; done) | (simp; done))
        have g4_1 : w4.frozen? ⟨w.heap.size + 2, 1, none⟩ = false := (kf4 _ _ (by first | assumption | (simp; done) | omega | (simp; omega))).trans (by first | assumption | (simp [go_sem]; done) | (simp; done))
        clear hb
        go_wp2
        refine bodyPost_ret (v := .agg #[.slice A1 l1.length c1, .bool s1]) (by simp [results, Tryz.results163, go_sem, *]) rfl ?_
        exact ⟨l1, s1, A1, c1, hide (E1.out.trans (by rw [HR.out, Em.out, Ek.out]; simp)), rfl, C1, hide (OwQ.base (B := w.heap.size + 3) (by (repeat (first | with_reducible exact O1.out | with_reducible refine OwQ.far ?_ (by first | (simp; done) | omega | (simp; omega)) _ | with_reducible refine OwQ.allc ?_ _ | with_reducible refine OwQ.drew ?_ | with_reducible refine OwQ.drewN ?_ _))) (by omega)), belo⟩
      · go_wp2_with fail
        refine (k1.out).mono ?_
        rintro e w' ⟨rfl, rfl⟩
        go_wp2_with fail
        refine (k2.out).mono ?_
        rintro e w' ⟨rfl, rfl⟩
        go_wp2_with fail
        refine (number_q P p pc _ L1 Op.out.rd).mono ?_
        rintro e w2 ⟨lm, Am, cm, Em, rfl, Cm, Om, hb⟩
        replace Op := hide ((show OwQ (w.heap.size + 3) _ _ _ by (repeat (first | with_reducible exact Op.out | with_reducible refine OwQ.far ?_ (by first | (simp; done) | omega | (simp; omega)) _ | with_reducible refine OwQ.allc ?_ _ | with_reducible refine OwQ.drew ?_ | with_reducible refine OwQ.drewN ?_ _))).kept hb)
        replace Oq := hide ((show OwQ (w.heap.size + 3) _ _ _ by (repeat (first | with_reducible exact Oq.out | with_reducible refine OwQ.far ?_ (by first | (simp; done) | omega | (simp; omega)) _ | with_reducible refine OwQ.allc ?_ _ | with_reducible refine OwQ.drew ?_ | with_reducible refine OwQ.drewN ?_ _))).kept hb)
        replace Om := hide Om.out.rd
        have hB2 : Below w.heap.size w w2 := Below.trans belo (hb.mono (by first | omega | (simp; done) | (simp; omega)))
        obtain ⟨kc2, kf2⟩ := bcell hb
        have hz2 := hb.size
        (try simp at hz2)
        have n2_0 : w.heap.size < w2.heap.size := by omega
        have n2_1 : w.heap.size + 1 < w2.heap.size := by omega
        have n2_2 : w.heap.size + 2 < w2.heap.size := by omega
        have r2_0 : w2.cell? ⟨w.heap.size + 2, 0, none⟩ = some (.slice none 0 0) := (kc2 _ _ (by first | assumption | (simp; done) | omega | (simp; omega))).trans (by first | assumption | (simp [go_sem]; done) | (simp; done))
        have g2_0 : w2.frozen? ⟨w.heap.size + 2, 0, none⟩ = false := (kf2 _ _ (by first | assumption | (simp; done) | omega | (simp; omega))).trans (by first | assumption | (simp [go_sem]; done) | (simp; done))
        have r2_1 : w2.cell? ⟨w.heap.size + 2, 1, none⟩ = some (.bool false) := (kc2 _ _ (by first | assumption | (simp; done) | omega | (simp; omega))).trans (by first | assumption | (simp [go_sem]; done) | (simp; done))
        have g2_1 : w2.frozen? ⟨w.heap.size + 2, 1, none⟩ = false := (kf2 _ _ (by first | assumption | (simp; done) | omega | (simp; omega))).trans (by first | assumption | (simp [go_sem]; done) | (simp; done))
        clear hb
        go_wp2_with fail
        refine (number_q Q q qc _ L2 Oq.out.rd).mono ?_
        rintro e w3 ⟨lk, Ak, ck, Ek, rfl, Ck, Ok, hb⟩
        replace Op := hide ((show OwQ (w.heap.size + 3) _ _ _ by (repeat (first | with_reducible exact Op.out | with_reducible refine OwQ.far ?_ (by first | (simp; done) | omega | (simp; omega)) _ | with_reducible refine OwQ.allc ?_ _ | with_reducible refine OwQ.drew ?_ | with_reducible refine OwQ.drewN ?_ _))).kept hb)
        replace Oq := hide ((show OwQ (w.heap.size + 3) _ _ _ by (repeat (first | with_reducible exact Oq.out | with_reducible refine OwQ.far ?_ (by first | (simp; done) | omega | (simp; omega)) _ | with_reducible refine OwQ.allc ?_ _ | with_reducible refine OwQ.drew ?_ | with_reducible refine OwQ.drewN ?_ _))).kept hb)
        replace Om := hide (Om.out.below hb)
        replace Ok := hide Ok.out.rd
        have hB3 : Below w.heap.size w w3 := Below.trans belo (hb.mono (by first | omega | (simp; done) | (simp; omega)))
        obtain ⟨kc3, kf3⟩ := bcell hb
        have hz3 := hb.size
        (try simp at hz3)
        have n3_0 : w.heap.size < w3.heap.size := by omega
        have n3_1 : w.heap.size + 1 < w3.heap.size := by omega
        have n3_2 : w.heap.size + 2 < w3.heap.size := by omega
        have r3_0 : w3.cell? ⟨w.heap.size + 2, 0, none⟩ = some (.slice none 0 0) := (kc3 _ _ (by first | assumption | (simp; done) | omega | (simp; omega))).trans (by first | assumption | (simp [go_sem]; done) | (simp; done))
        have g3_0 : w3.frozen? ⟨w.heap.size + 2, 0, none⟩ = false := (kf3 _ _ (by first | assumption | (simp; done) | omega | (simp; omega))).trans (by first | assumption | (simp [go_sem]; done) | (simp; done))
        have r3_1 : w3.cell? ⟨w.heap.size + 2, 1, none⟩ = some (.bool false) := (kc3 _ _ (by first | assumption | (simp; done) | omega | (simp; omega))).trans (by first | assumption | (simp [go_sem]; done) | (simp; done))
        have g3_1 : w3.frozen? ⟨w.heap.size + 2, 1, none⟩ = false := (kf3 _ _ (by first | assumption | (simp; done) | omega | (simp; omega))).trans (by first | assumption | (simp [go_sem]; done) | (simp; done))
        clear hb
        have em : lm.length ≤ 4096 := by rw [Em.out, nb_length]; exact L1
        have ek : lk.length ≤ 4096 := by rw [Ek.out, nb_length]; exact L2
        go_wp2_with fail
        refine (scmp_any Am Ak lm lk cm ck _ em ek Om.out Ok.out).mono ?_
        rintro e w' ⟨rfl, rfl⟩
        go_wp2_with fail
        refine (HO.out.ct _ _).mono ?_
        rintro e w' ⟨rfl, rfl⟩
        go_wp2_with fail
        refine (from_q _ _).mono ?_
        rintro e w' ⟨rfl, rfl⟩
        go_wp2_with fail
        refine (single_any _ _).mono ?_
        rintro e w4 ⟨l1, s1, A1, c1, E1, rfl, C1, O1, hb⟩
        replace Op := hide ((show OwQ (w.heap.size + 3) _ _ _ by (repeat (first | with_reducible exact Op.out | with_reducible refine OwQ.far ?_ (by first | (simp; done) | omega | (simp; omega)) _ | with_reducible refine OwQ.allc ?_ _ | with_reducible refine OwQ.drew ?_ | with_reducible refine OwQ.drewN ?_ _))).kept hb)
        replace Oq := hide ((show OwQ (w.heap.size + 3) _ _ _ by (repeat (first | with_reducible exact Oq.out | with_reducible refine OwQ.far ?_ (by first | (simp; done) | omega | (simp; omega)) _ | with_reducible refine OwQ.allc ?_ _ | with_reducible refine OwQ.drew ?_ | with_reducible refine OwQ.drewN ?_ _))).kept hb)
        replace Om := hide (Om.out.below hb)
        replace Ok := hide (Ok.out.below hb)
        replace O1 := hide (O1.out.base (show w.heap.size + 3 ≤ _ by first | omega | (simp; omega) | (simp; done)))
        have hB4 : Below w.heap.size w w4 := Below.trans belo (hb.mono (by first | omega | (simp; done) | (simp; omega)))
        obtain ⟨kc4, kf4⟩ := bcell hb
        have hz4 := hb.size
        (try simp at hz4)
        have n4_0 : w.heap.size < w4.heap.size := by omega
        have n4_1 : w.heap.size + 1 < w4.heap.size := by omega
        have n4_2 : w.heap.size + 2 < w4.heap.size := by omega
        have r4_0 : w4.cell? ⟨w.heap.size + 2, 0, none⟩ = some (.slice none 0 0) := (kc4 _ _ (by first | assumption | (simp; done) | omega | (simp; omega))).trans (by first | assumption | (simp [go_sem]; done) | (simp; done))
        have g4_0 : w4.frozen? ⟨w.heap.size + 2, 0, none⟩ = false := (kf4 _ _ (by first | assumption | (simp; done) | omega | (simp; omega))).trans (by first | assumption | (simp [go_sem]; done) | (simp; done))
        have r4_1 : w4.cell? ⟨w.heap.size + 2, 1, none⟩ = some (.bool false) := (kc4 _ _ (by first | assumption | (simp; done) | omega | (simp; omega))).trans (by first | assumption | (simp [go_sem]; done) | (simp; done))
        have g4_1 : w4.frozen? ⟨w.heap.size + 2, 1, none⟩ = false := (kf4 _ _ (by first | assumption | (simp; done) | omega | (simp; omega))).trans (by first | assumption | (simp [go_sem]; done) | (simp; done))
        clear hb
        go_wp2
        refine bodyPost_ret (v := .agg #[.slice A1 l1.length c1, .bool s1]) (by simp [results, Tryz.results163, go_sem, *]) rfl ?_
        exact ⟨l1, s1, A1, c1, hide (E1.out.trans (by rw [HR.out, Em.out, Ek.out]; simp)), rfl, C1, hide (OwQ.base (B := w.heap.size + 3) (by (repeat (first | with_reducible exact O1.out | with_reducible refine OwQ.far ?_ (by first | (simp; done) | omega | (simp; omega)) _ | with_reducible refine OwQ.allc ?_ _ | with_reducible refine OwQ.drew ?_ | with_reducible refine OwQ.drewN ?_ _))) (by omega)), belo⟩
theorem vLt_any (A B : Option Addr) (a b : List Int) (c d : Nat) (s t : Bool) (w : World) (ha : a.length ≤ 4096) (hb : b.length ≤ 4096) (hca : Hid (a.length ≤ c ∧ c ≤ maxLen)) (hcb : Hid (b.length ≤ d ∧ d ≤ maxLen)) (hA : RQ w A a) (hB : RQ w B b) (ya : By a) (yb : By b) :
    Calls Tryz.prog 76 #[.agg #[.slice A a.length c, .bool s], .agg #[.slice B b.length d, .bool t]] w (RetC (· = vCmp (fun z => decide (z < 0)) ⟨a, s⟩ ⟨b, t⟩) w) := by
  have HA := hide hA
  have HBB := hide hB
  have LA := hide ha
  have LB := hide hb
  have YA := hide ya
  have YB := hide yb
  clear hA hB ha hb ya yb
  go_enter Tryz.func76, Tryz.ntmps76
  go_wp2_with fail
  refine (compare_any _ _ judge_lt A B a b c d s t _ LA.out LB.out hca hcb (HA.out.below belo) (HBB.out.below belo) YA.out YB.out).mono ?_
  rintro e w1 ⟨l1, s1, A1, c1, E1, rfl, C1, O1, hb⟩
  replace O1 := hide (O1.out.base (show w.heap.size + 3 ≤ _ by first | omega | (simp; omega) | (simp; done)))
  have hB1 : Below w.heap.size w w1 := Below.trans belo (hb.mono (by first | omega | (simp; done) | (simp; omega)))
  obtain ⟨kc1, kf1⟩ := bcell hb
  have hz1 := hb.size
  (try simp at hz1)
  have n1_0 : w.heap.size < w1.heap.size := by omega
  have n1_1 : w.heap.size + 1 < w1.heap.size := by omega
  have n1_2 : w.heap.size + 2 < w1.heap.size := by omega
  have r1_0 : w1.cell? ⟨w.heap.size + 2, 0, none⟩ = some (.slice none 0 0) := (kc1 _ _ (by first | assumption | (simp; done) | omega | (simp; omega))).trans (by first | assumption | (simp [go_sem]; done) | (simp; done))
  have g1_0 : w1.frozen? ⟨w.heap.size + 2, 0, none⟩ = false := (kf1 _ _ (by first | assumption | (simp; done) | omega | (simp; omega))).trans (by first | assumption | (simp [go_sem]; done) | (simp; done))
  have r1_1 : w1.cell? ⟨w.heap.size + 2, 1, none⟩ = some (.bool false) := (kc1 _ _ (by first | assumption | (simp; done) | omega | (simp; omega))).trans (by first | assumption | (simp [go_sem]; done) | (simp; done))
  have g1_1 : w1.frozen? ⟨w.heap.size + 2, 1, none⟩ = false := (kf1 _ _ (by first | assumption | (simp; done) | omega | (simp; omega))).trans (by first | assumption | (simp [go_sem]; done) | (simp; done))
  clear hb
  go_wp2
  refine bodyPost_ret (v := .agg #[.slice A1 l1.length c1, .bool s1]) (by simp [results, Tryz.results76, go_sem, *]) rfl ?_
  exact ⟨l1, s1, A1, c1, hide (E1.out), rfl, C1, hide (OwQ.base (B := w.heap.size + 3) (by (repeat (first | with_reducible exact O1.out | with_reducible refine OwQ.far ?_ (by first | (simp; done) | omega | (simp; omega)) _ | with_reducible refine OwQ.allc ?_ _ | with_reducible refine OwQ.drew ?_ | with_reducible refine OwQ.drewN ?_ _))) (by omega)), belo⟩
theorem vLe_any (A B : Option Addr) (a b : List Int) (c d : Nat) (s t : Bool) (w : World) (ha : a.length ≤ 4096) (hb : b.length ≤ 4096) (hca : Hid (a.length ≤ c ∧ c ≤ maxLen)) (hcb : Hid (b.length ≤ d ∧ d ≤ maxLen)) (hA : RQ w A a) (hB : RQ w B b) (ya : By a) (yb : By b) :
    Calls Tryz.prog 78 #[.agg #[.slice A a.length c, .bool s], .agg #[.slice B b.length d, .bool t]] w (RetC (· = vCmp (fun z => decide (z ≤ 0)) ⟨a, s⟩ ⟨b, t⟩) w) := by
  have HA := hide hA
  have HBB := hide hB
  have LA := hide ha
  have LB := hide hb
  have YA := hide ya
  have YB := hide yb
  clear hA hB ha hb ya yb
  go_enter Tryz.func78, Tryz.ntmps78
  go_wp2_with fail
  refine (compare_any _ _ judge_le A B a b c d s t _ LA.out LB.out hca hcb (HA.out.below belo) (HBB.out.below belo) YA.out YB.out).mono ?_
  rintro e w1 ⟨l1, s1, A1, c1, E1, rfl, C1, O1, hb⟩
  replace O1 := hide (O1.out.base (show w.heap.size + 3 ≤ _ by first | omega | (simp; omega) | (simp; done)))
  have hB1 : Below w.heap.size w w1 := Below.trans belo (hb.mono (by first | omega | (simp; done) | (simp; omega)))
  obtain ⟨kc1, kf1⟩ := bcell hb
  have hz1 := hb.size
  (try simp at hz1)
  have n1_0 : w.heap.size < w1.heap.size := by omega
  have n1_1 : w.heap.size + 1 < w1.heap.size := by omega
  have n1_2 : w.heap.size + 2 < w1.heap.size := by omega
  have r1_0 : w1.cell? ⟨w.heap.size + 2, 0, none⟩ = some (.slice none 0 0) := (kc1 _ _ (by first | assumption | (simp; done) | omega | (simp; omega))).trans (by first | assumption | (simp [go_sem]; done) | (simp; done))
  have g1_0 : w1.frozen? ⟨w.heap.size + 2, 0, none⟩ = false := (kf1 _ _ (by first | assumption | (simp; done) | omega | (simp; omega))).trans (by first | assumption | (simp [go_sem]; done) | (simp; done))
  have r1_1 : w1.cell? ⟨w.heap.size + 2, 1, none⟩ = some (.bool false) := (kc1 _ _ (by first | assumption | (simp; done) | omega | (simp; omega))).trans (by first | assumption | (simp [go_sem]; done) | (simp; done))
  have g1_1 : w1.frozen? ⟨w.heap.size + 2, 1, none⟩ = false := (kf1 _ _ (by first | assumption | (simp; done) | omega | (simp; omega))).trans (by first | assumption | (simp [go_sem]; done) | (simp; done))
  clear hb
  go_wp2
  refine bodyPost_ret (v := .agg #[.slice A1 l1.length c1, .bool s1]) (by simp [results, Tryz.results78, go_sem, *]) rfl ?_
  exact ⟨l1, s1, A1, c1, hide (E1.out), rfl, C1, hide (OwQ.base (B := w.heap.size + 3) (by (repeat (first | with_reducible exact O1.out | with_reducible refine OwQ.far ?_ (by first | (simp; done) | omega | (simp; omega)) _ | with_reducible refine OwQ.allc ?_ _ | with_reducible refine OwQ.drew ?_ | with_reducible refine OwQ.drewN ?_ _))) (by omega)), belo⟩
theorem vGt_any (A B : Option Addr) (a b : List Int) (c d : Nat) (s t : Bool) (w : World) (ha : a.length ≤ 4096) (hb : b.length ≤ 4096) (hca : Hid (a.length ≤ c ∧ c ≤ maxLen)) (hcb : Hid (b.length ≤ d ∧ d ≤ maxLen)) (hA : RQ w A a) (hB : RQ w B b) (ya : By a) (yb : By b) :
    Calls Tryz.prog 79 #[.agg #[.slice A a.length c, .bool s], .agg #[.slice B b.length d, .bool t]] w (RetC (· = vCmp (fun z => decide (0 < z)) ⟨a, s⟩ ⟨b, t⟩) w) := by
  have HA := hide hA
  have HBB := hide hB
  have LA := hide ha
  have LB := hide hb
  have YA := hide ya
  have YB := hide yb
  clear hA hB ha hb ya yb
  go_enter Tryz.func79, Tryz.ntmps79
  go_wp2_with fail
  refine (compare_any _ _ judge_gt A B a b c d s t _ LA.out LB.out hca hcb (HA.out.below belo) (HBB.out.below belo) YA.out YB.out).mono ?_
  rintro e w1 ⟨l1, s1, A1, c1, E1, rfl, C1, O1, hb⟩
  replace O1 := hide (O1.out.base (show w.heap.size + 3 ≤ _ by first | omega | (simp; omega) | (simp; done)))
  have hB1 : Below w.heap.size w w1 := Below.trans belo (hb.mono (by first | omega | (simp; done) | (simp; omega)))
  obtain ⟨kc1, kf1⟩ := bcell hb
  have hz1 := hb.size
  (try simp at hz1)
  have n1_0 : w.heap.size < w1.heap.size := by omega
  have n1_1 : w.heap.size + 1 < w1.heap.size := by omega
  have n1_2 : w.heap.size + 2 < w1.heap.size := by omega
  have r1_0 : w1.cell? ⟨w.heap.size + 2, 0, none⟩ = some (.slice none 0 0) := (kc1 _ _ (by first | assumption | (simp; done) | omega | (simp; omega))).trans (by first | assumption | (simp [go_sem]; done) | (simp; done))
  have g1_0 : w1.frozen? ⟨w.heap.size + 2, 0, none⟩ = false := (kf1 _ _ (by first | assumption | (simp; done) | omega | (simp; omega))).trans (by first | assumption | (simp [go_sem]; done) | (simp; done))
  have r1_1 : w1.cell? ⟨w.heap.size + 2, 1, none⟩ = some (.bool false) := (kc1 _ _ (by first | assumption | (simp; done) | omega | (simp; omega))).trans (by first | assumption | (simp [go_sem]; done) | (simp; done))
  have g1_1 : w1.frozen? ⟨w.heap.size + 2, 1, none⟩ = false := (kf1 _ _ (by first | assumption | (simp; done) | omega | (simp; omega))).trans (by first | assumption | (simp [go_sem]; done) | (simp; done))
  clear hb
  go_wp2
  refine bodyPost_ret (v := .agg #[.slice A1 l1.length c1, .bool s1]) (by simp [results, Tryz.results79, go_sem, *]) rfl ?_
  exact ⟨l1, s1, A1, c1, hide (E1.out), rfl, C1, hide (OwQ.base (B := w.heap.size + 3) (by (repeat (first | with_reducible exact O1.out | with_reducible refine OwQ.far ?_ (by first | (simp; done) | omega | (simp; omega)) _ | with_reducible refine OwQ.allc ?_ _ | with_reducible refine OwQ.drew ?_ | with_reducible refine OwQ.drewN ?_ _))) (by omega)), belo⟩
theorem vGe_any (A B : Option Addr) (a b : List Int) (c d : Nat) (s t : Bool) (w : World) (ha : a.length ≤ 4096) (hb : b.length ≤ 4096) (hca : Hid (a.length ≤ c ∧ c ≤ maxLen)) (hcb : Hid (b.length ≤ d ∧ d ≤ maxLen)) (hA : RQ w A a) (hB : RQ w B b) (ya : By a) (yb : By b) :
    Calls Tryz.prog 77 #[.agg #[.slice A a.length c, .bool s], .agg #[.slice B b.length d, .bool t]] w (RetC (· = vCmp (fun z => decide (0 ≤ z)) ⟨a, s⟩ ⟨b, t⟩) w) := by
  have HA := hide hA
  have HBB := hide hB
  have LA := hide ha
  have LB := hide hb
  have YA := hide ya
  have YB := hide yb
  clear hA hB ha hb ya yb
  go_enter Tryz.func77, Tryz.ntmps77
  go_wp2_with fail
  refine (compare_any _ _ judge_ge A B a b c d s t _ LA.out LB.out hca hcb (HA.out.below belo) (HBB.out.below belo) YA.out YB.out).mono ?_
  rintro e w1 ⟨l1, s1, A1, c1, E1, rfl, C1, O1, hb⟩
  replace O1 := hide (O1.out.base (show w.heap.size + 3 ≤ _ by first | omega | (simp; omega) | (simp; done)))
  have hB1 : Below w.heap.size w w1 := Below.trans belo (hb.mono (by first | omega | (simp; done) | (simp; omega)))
  obtain ⟨kc1, kf1⟩ := bcell hb
  have hz1 := hb.size
  (try simp at hz1)
  have n1_0 : w.heap.size < w1.heap.size := by omega
  have n1_1 : w.heap.size + 1 < w1.heap.size := by omega
  have n1_2 : w.heap.size + 2 < w1.heap.size := by omega
  have r1_0 : w1.cell? ⟨w.heap.size + 2, 0, none⟩ = some (.slice none 0 0) := (kc1 _ _ (by first | assumption | (simp; done) | omega | (simp; omega))).trans (by first | assumption | (simp [go_sem]; done) | (simp; done))
  have g1_0 : w1.frozen? ⟨w.heap.size + 2, 0, none⟩ = false := (kf1 _ _ (by first | assumption | (simp; done) | omega | (simp; omega))).trans (by first | assumption | (simp [go_sem]; done) | (simp; done))
  have r1_1 : w1.cell? ⟨w.heap.size + 2, 1, none⟩ = some (.bool false) := (kc1 _ _ (by first | assumption | (simp; done) | omega | (simp; omega))).trans (by first | assumption | (simp [go_sem]; done) | (simp; done))
  have g1_1 : w1.frozen? ⟨w.heap.size + 2, 1, none⟩ = false := (kf1 _ _ (by first | assumption | (simp; done) | omega | (simp; omega))).trans (by first | assumption | (simp [go_sem]; done) | (simp; done))
  clear hb
  go_wp2
  refine bodyPost_ret (v := .agg #[.slice A1 l1.length c1, .bool s1]) (by simp [results, Tryz.results77, go_sem, *]) rfl ?_
  exact ⟨l1, s1, A1, c1, hide (E1.out), rfl, C1, hide (OwQ.base (B := w.heap.size + 3) (by (repeat (first | with_reducible exact O1.out | with_reducible refine OwQ.far ?_ (by first | (simp; done) | omega | (simp; omega)) _ | with_reducible refine OwQ.allc ?_ _ | with_reducible refine OwQ.drew ?_ | with_reducible refine OwQ.drewN ?_ _))) (by omega)), belo⟩
end
section
open Go.ChangeShapes Go.WideShapes Go.ChangeAt Go.WideMaps Go.WideElems Go.RowKit
theorem own : ownKnob Tryz.prog.godebug = none := by kernel_rfl
/-- The cells of an array of arrays of integers that reads as known rows. -/
theorem cells_of_grid {H : Type} {enc : TypeId × Value → H} {P : Program} {w : World} {base : Nat} {sp : Nat → Bool} {held : Bool} {fuel : Nat} {t e i : TypeId} {n m : Nat} {k : IntKind} {cs : List Value} {rows : List (List Int)} {p : List MemPlace}
    (ht : P.underlying t = some (.array n e)) (he : P.underlying e = some (.array m i)) (hi : P.underlying i = some (.int k)) (hci : P.cellsOf i = 1) (hce : P.cellsOf e = m)
    (h : DataW.trod enc P w base sp held fuel t cs = some (.agg (rows.map (Lib.tabData k)), p)) (r : Nat) (zs : List Int) (hr : rows[r]? = some zs) : (cs.drop (r * m)).take m = zs.map fun z => Value.int k z := by
  cases fuel with
  | zero => simp [DataW.trod] at h
  | succ fuel =>
    simp only [DataW.trod, ht, hce] at h
    split at h
    · obtain ⟨xs, hm, hx⟩ := Option.map_eq_some_iff.1 h
      have hxs : xs.map (·.1) = rows.map (Lib.tabData k) := by
        have := congrArg Prod.fst hx
        simpa using this
      have hxl : xs.length = n := by simpa using Lib.mapM_length hm
      have hrl : rows.length = n := by
        have := congrArg List.length hxs
        simp at this
        omega
      have hrn : r < n := by
        have := (List.getElem?_eq_some_iff.1 hr).1
        omega
      obtain ⟨b, hb, hf⟩ := Lib.mapM_at hm r r (by simp [hrn])
      have hb1 : b.1 = Lib.tabData k zs := by
        have h2 : (xs.map (·.1))[r]? = some b.1 := by simp [hb]
        rw [hxs] at h2
        simp only [List.getElem?_map, hr, Option.map_some, Option.some.injEq] at h2
        exact h2.symm
      obtain ⟨b1, b2⟩ := b
      simp only at hb1
      subst hb1
      exact Lib.cells_of_tab he hi hci hce hf
    · cases h
theorem tab1_of_head {name : String} {rest : List (String × DataW Unit)} {W : World} {g : Nat} {t e : TypeId} {zs : List Int} {f : Int → Int}
    (hg : Tryz.prog.globalNamed name = some g) (hty : (Tryz.prog.globals[g]?).map (·.type) = some t) (ht : Tryz.prog.underlying t = some (.array 4 e)) (he : Tryz.prog.underlying e = some (.int .u8)) (hce : Tryz.prog.cellsOf e = 1) (hct : Tryz.prog.cellsOf t = 4)
    (hz : zs = [f 0, f 1, f 2, f 3]) (hf : ∀ a, f (bst a) = f a)
    (h : laidMet Tryz.prog ((name, Lib.tabData .u8 zs) :: rest) W) : Tab1 g f W := by
  have hT := Lib.tabIs_of_head hg hty ht he hce hct h
  subst hz
  intro a h0
  have hb := bst_bd a h0
  rw [hT.cell hg _ (by simp; omega), ← hf a]
  have : bst a = 0 ∨ bst a = 1 ∨ bst a = 2 ∨ bst a = 3 := by omega
  rcases this with e | e | e | e <;> rw [e] <;> rfl
theorem tab2_of_head {name : String} {rest : List (String × DataW Unit)} {W : World} {g : Nat} {t e i : TypeId} {rows : List (List Int)} {f : Int → Int → Int}
    (hg : Tryz.prog.globalNamed name = some g) (hty : (Tryz.prog.globals[g]?).map (·.type) = some t) (ht : Tryz.prog.underlying t = some (.array 4 e)) (he : Tryz.prog.underlying e = some (.array 4 i)) (hi : Tryz.prog.underlying i = some (.int .u8)) (hci : Tryz.prog.cellsOf i = 1) (hce : Tryz.prog.cellsOf e = 4)
    (hz : rows = [[f 0 0, f 0 1, f 0 2, f 0 3], [f 1 0, f 1 1, f 1 2, f 1 3], [f 2 0, f 2 1, f 2 2, f 2 3], [f 3 0, f 3 1, f 3 2, f 3 3]]) (hf : ∀ a b, f (bst a) (bst b) = f a b)
    (h : laidMet Tryz.prog ((name, .agg (rows.map (Lib.tabData .u8))) :: rest) W) : Tab2 g f W := by
  obtain ⟨ps, ⟨g', t', cs, fuel, p, q, hg', ht', hvar, hd, _, _⟩, _⟩ := h
  obtain rfl := Option.some.inj (hg.symm.trans hg')
  obtain rfl := Option.some.inj (hty.symm.trans ht')
  have hgrid := cells_of_grid ht he hi hci hce hd
  subst hz
  intro a b h0 h1
  have ha := bst_bd a h0
  have hb := bst_bd b h1
  rw [World.var?_cell hg hvar, ← hf a b]
  have key : ∀ (r j : Nat) (zs : List Int) (z : Int), [[f 0 0, f 0 1, f 0 2, f 0 3], [f 1 0, f 1 1, f 1 2, f 1 3], [f 2 0, f 2 1, f 2 2, f 2 3], [f 3 0, f 3 1, f 3 2, f 3 3]][r]? = some zs → zs[j]? = some z → j < 4 → cs[r * 4 + j]? = some (.int .u8 z) := by
    intro r j zs z hr hj hlt
    have := congrArg (·[j]?) (hgrid r zs hr)
    simp only [List.getElem?_take, List.getElem?_drop, List.getElem?_map, hj, hlt, if_true, Option.map_some] at this
    simpa using this
  have ea : bst a = 0 ∨ bst a = 1 ∨ bst a = 2 ∨ bst a = 3 := by omega
  have eb : bst b = 0 ∨ bst b = 1 ∨ bst b = 2 ∨ bst b = 3 := by omega
  rcases ea with ea | ea | ea | ea <;> rcases eb with eb | eb | eb | eb <;> rw [ea, eb] <;> exact key _ _ _ _ rfl rfl (by decide)
section
variable {rest : List (String × DataW Unit)} {W : World}
theorem tab_notTable (h : laidMet Tryz.prog (("netlab/bit.notTable", Rows.laid_netlab_bit_notTable) :: rest) W) : Tab1 2 mNot W :=
  tab1_of_head (t := 132) (e := 48) (zs := [1, 0, 2, 2]) (by kernel_rfl) (by kernel_rfl) (by kernel_rfl) (by kernel_rfl) (by kernel_rfl) (by kernel_rfl) (by decide) mNot_bst h
theorem tab_bufTable (h : laidMet Tryz.prog (("netlab/bit.bufTable", Rows.laid_netlab_bit_bufTable) :: rest) W) : Tab1 5 mBuf W :=
  tab1_of_head (t := 132) (e := 48) (zs := [0, 1, 2, 2]) (by kernel_rfl) (by kernel_rfl) (by kernel_rfl) (by kernel_rfl) (by kernel_rfl) (by kernel_rfl) (by decide) mBuf_bst h
theorem tab_andTable (h : laidMet Tryz.prog (("netlab/bit.andTable", Rows.laid_netlab_bit_andTable) :: rest) W) : Tab2 3 mAnd W :=
  tab2_of_head (t := 133) (e := 132) (i := 48) (rows := [[0, 0, 0, 0], [0, 1, 2, 2], [0, 2, 2, 2], [0, 2, 2, 2]]) (by kernel_rfl) (by kernel_rfl) (by kernel_rfl) (by kernel_rfl) (by kernel_rfl) (by kernel_rfl) (by kernel_rfl) (by decide) mAnd_bst h
theorem tab_orTable (h : laidMet Tryz.prog (("netlab/bit.orTable", Rows.laid_netlab_bit_orTable) :: rest) W) : Tab2 0 mOr W :=
  tab2_of_head (t := 133) (e := 132) (i := 48) (rows := [[0, 1, 2, 2], [1, 1, 1, 1], [2, 1, 2, 2], [2, 1, 2, 2]]) (by kernel_rfl) (by kernel_rfl) (by kernel_rfl) (by kernel_rfl) (by kernel_rfl) (by kernel_rfl) (by kernel_rfl) (by decide) mOr_bst h
theorem tab_xorTable (h : laidMet Tryz.prog (("netlab/bit.xorTable", Rows.laid_netlab_bit_xorTable) :: rest) W) : Tab2 4 mXor W :=
  tab2_of_head (t := 133) (e := 132) (i := 48) (rows := [[0, 1, 2, 2], [1, 0, 2, 2], [2, 2, 2, 2], [2, 2, 2, 2]]) (by kernel_rfl) (by kernel_rfl) (by kernel_rfl) (by kernel_rfl) (by kernel_rfl) (by kernel_rfl) (by kernel_rfl) (by decide) mXor_bst h
theorem tab_agreeTable (h : laidMet Tryz.prog (("netlab/bit.agreeTable", Rows.laid_netlab_bit_agreeTable) :: rest) W) : Tab2 1 mAgree W :=
  tab2_of_head (t := 133) (e := 132) (i := 48) (rows := [[0, 2, 2, 2], [2, 1, 2, 2], [2, 2, 2, 2], [2, 2, 2, 2]]) (by kernel_rfl) (by kernel_rfl) (by kernel_rfl) (by kernel_rfl) (by kernel_rfl) (by kernel_rfl) (by kernel_rfl) (by decide) mAgree_bst h
end
end
section
open Go Go.ChangeShapes Go.WideShapes Go.Deep Go.RowKit Go.Joins
section
variable {H : Type} {enc : TypeId × Value → H} {P : Program} {W : World}
theorem trod_bits {t e : TypeId} {n : Nat} {v : Value} {y : DataW H × List MemPlace} (ht : P.underlying t = some (.slice e)) (he : P.underlying e = some (.int .u8)) (hce : P.cellsOf e = 1)
    (h : DataW.trod enc P W 0 (fun _ => true) true n t [v] = some y) :
    ∃ (A : Option Addr) (l : List Int) (c : Nat), v = .slice A l.length c ∧ l.length ≤ maxLen ∧ RQ W A l ∧ By l ∧ Hid (l.length ≤ c ∧ c ≤ maxLen) := by
  rcases open_ints ht he hce h with ⟨h2, -⟩ | ⟨a, len, cap, zs, hcs, hb, hl, hm, hz, hx, hcell, hwf⟩
  · simp only [List.cons.injEq, and_true] at h2
    subst h2
    exact ⟨none, [], 0, rfl, by simp, fun h => absurd h (by simp), fun i => by rw [qt_ge (by simp)]; decide, show _ ∧ _ from ⟨Nat.le_refl _, by simp [maxLen]⟩⟩
  · simp only [if_true] at hz
    simp only [List.cons.injEq, and_true] at hcs
    subst hcs
    have hlen : (zs.take len).length = len := by rw [List.length_take]; omega
    have hq : ∀ i, i < len → qt (zs.take len) i = zs.getD i 0 := fun i hi => by
      unfold qt
      rw [List.getD_eq_getElem?_getD, List.getElem?_take, if_pos hi, List.getD_eq_getElem?_getD]
    refine ⟨some a, zs.take len, cap, by rw [hlen], by omega, fun hn => ?_, fun i => ?_, show _ ∧ _ from ⟨by omega, hm⟩⟩
    · rw [hlen] at hn
      refine ⟨a, rfl, ?_, fun i hi => ?_⟩
      · have h0 := hcell 0 (by omega)
        have := block_lt_of_cell h0
        rwa [block_of_add] at this
      · rw [hlen] at hi
        rw [hcell i (by omega), hq i hi]
    · rcases Nat.lt_or_ge i len with hi | hi
      · rw [hq i hi, List.getD_eq_getElem?_getD, List.getElem?_eq_getElem (by omega : i < zs.length)]
        have h := hwf _ (List.getElem_mem (by omega : i < zs.length))
        simp only [Lit.wf, Bool.and_eq_true] at h
        exact ⟨of_decide_eq_true h.1, of_decide_eq_true h.2⟩
      · rw [qt_ge (by omega)]; decide
theorem open_vec {r : Reach} {b0 : Nat} {t e : TypeId} {f0 f1 : Field} {v : Value} {d : DataW H} {p : List MemPlace} (hs : P.underlying t = some (.struct #[f0, f1])) (hone : oneCellFields P #[f0, f1] = true) (hC : P.cellsOf t = 2)
    (h0 : P.underlying f0.type = some (.slice e)) (he : P.underlying e = some (.int .u8)) (hce : P.cellsOf e = 1) (h1 : P.underlying f1.type = some .bool)
    (hv : Value.okWide P W r b0 t v) (h : DataW.Trod enc P W 0 (fun _ => true) true t v d p) :
    ∃ (A : Option Addr) (l : List Int) (c : Nat) (s : Bool), v = .agg #[.slice A l.length c, .bool s] ∧ l.length ≤ maxLen ∧ RQ W A l ∧ By l ∧ Hid (l.length ≤ c ∧ c ≤ maxLen) := by
  obtain ⟨v0, v1, y0, y1, n, rfl, -, -, t0, t1⟩ := open_agg2 hs hone hC hv h
  obtain ⟨A, l, c, rfl, k1, k2, k3, k4⟩ := trod_bits h0 he hce t0
  obtain ⟨s, hs1, -⟩ := DataW.trod_bool h1 t1
  obtain rfl : v1 = .bool s := by simpa using hs1
  exact ⟨A, l, c, s, rfl, k1, k2, k3, k4⟩
end
end
section
open Go Go.ChangeShapes Go.WideShapes Go.WideElems Go.RowKit
section
variable {H : Type} {enc : TypeId × Value → H} {P : Program}
theorem carry_all (hl : laidOutB P = true) {W W' : World} {sp : Nat → Bool} (hb : Below W.heap.size W W') : ∀ {ts : List TypeId} {vs : List Value} {ds : List (DataW H)} {ps : List MemPlace},
    (ts.all fun t => P.readableRec t && decide (t < P.types.size)) = true → DataW.TrodAll enc P W 0 (fun _ => true) true ts vs ds ps → (∀ p ∈ ps, p.block < W.heap.size) → (∀ p ∈ ps, sp p.block = true) →
    DataW.TrodAll enc P W' 0 sp true ts vs ds ps
  | [], [], [], _, _, h, _, _ => h
  | [], [], _ :: _, _, _, h, _, _ => h.elim
  | [], _ :: _, _, _, _, h, _, _ => h.elim
  | _ :: _, [], _, _, _, h, _, _ => h.elim
  | _ :: _, _ :: _, [], _, _, h, _, _ => h.elim
  | t :: ts, v :: vs, d :: ds, ps, hr, h, hlt, hsp => by
    obtain ⟨p, q, h1, h2, e⟩ := h
    simp only [List.all_cons, Bool.and_eq_true, decide_eq_true_eq] at hr
    subst e
    exact ⟨p, q, Trod_stays hl hr.1.1 hr.1.2 h1 (fun x hx => hb.same (hlt x (by simp [hx]))) (fun x hx => hsp x (by simp [hx])),
      carry_all hl hb (by simpa using hr.2) h2 (fun x hx => hlt x (by simp [hx])) (fun x hx => hsp x (by simp [hx])), rfl⟩
theorem law_post {f : Func} {s : ChangeSpec} {bt : TypeId} {W W' : World} {args : Array Value} {ds gs : List (DataW H)} {before : List MemPlace}
    (hl : laidOutB P = true) (hr : (f.params.toList.all fun t => P.readableRec t && decide (t < P.types.size)) = true) (hbool : P.underlying bt = some .bool) (hres : f.resultTypes = #[bt]) (hvars : s.vars = [])
    (hW : DataW.Whole enc P f.params.toList s.vars false W args.toList ds gs before)
    (hf1 : (s.fn H (ds ++ gs)).results = [.lit (.bool true)]) (hf2 : (s.fn H (ds ++ gs)).args = ds) (hf3 : (s.fn H (ds ++ gs)).vars = []) (hb : Below W.heap.size W W') :
    s.post enc P f false true false false W args (.bool true) W' := by
  have hlt : ∀ p ∈ before, p.block < W.heap.size := fun p hp => hW.lt p hp
  have hW0 := hW
  obtain ⟨pa, pv, hA, hV, e, hz, hn⟩ := hW
  rw [hvars] at hV
  obtain ⟨rfl, rfl⟩ := trodVars_none hV
  rw [List.append_nil] at e
  subst e
  have hbs : (Value.bool true).resultList f.resultTypes.size = [.bool true] := by rw [hres]; rfl
  have hR : ∀ (b : Nat) (sp : Nat → Bool) (hd : Bool), DataW.TrodAll enc P W' b sp hd f.resultTypes.toList ((Value.bool true).resultList f.resultTypes.size) (s.fn H (ds ++ [])).results [] := by
    intro b sp hd
    rw [hbs, hf1, hres]
    exact trodAll_mk1 (shut_bool hbool _)
  have hG : ∀ sp : Nat → Bool, (∀ p ∈ before, sp p.block = true) → DataW.TrodAll enc P W' 0 sp true f.params.toList args.toList (s.fn H (ds ++ [])).args before := fun sp hsp => by
    rw [hf2]; exact carry_all hl hb hr hA hlt hsp
  have hVs : ∀ sp : Nat → Bool, DataW.TrodVars enc P W' sp s.vars (s.fn H (ds ++ [])).vars [] := fun sp => by rw [hf3, hvars]; rfl
  have hok : ∀ (j : Nat) (t : TypeId) (r : Value), f.resultTypes[j]? = some t → ((Value.bool true).resultList f.resultTypes.size)[j]? = some r → Value.okWide P W' .any 0 t r := ok_one hres rfl (okWide_bool_mk hbool _)
  have hold : ∀ p ∈ before, (fun b => decide (b < W.heap.size)) p.block = true := fun p hp => by simpa using hlt p hp
  refine ⟨ds, [], before, [], before, [], hW0, hR _ _ _, hG _ hold, hVs _, World.keptBut_mono (fun p hp => ⟨hp, by simpa using hp⟩) (hb.frame (· ∈ before)), fun _ => ?_⟩
  refine ⟨hok, _, _, ([] ++ before) ++ [], ⟨[] ++ before, [], trodAll_append (hG _ (fun _ _ => rfl)) (hR _ _ _), hVs _, rfl, ?_, ?_⟩, ?_⟩
  · intro b off hp
    have hin : MemPlace.cell b off ∈ before := by simpa using hp
    rw [hb.frozen (hlt _ hin)]
    exact hz b off hin
  · intro ha
    have := hn ha
    simpa using this
  · intro p hp _
    simpa using hp
end
end
end Go.Proofs.YtpiakebbndoecaaGreatDoor
