/-
  The walk of BvWords.
-/
import Derived.Test.YtkjiaflmaniplaaBvFF
namespace Go.Proofs.Ytkjiaflmaniplaa
open Go.RowKit
set_option linter.unusedSimpArgs false
set_option linter.unusedVariables false
set_option maxRecDepth 100000 in
set_option maxHeartbeats 8000000 in
theorem BvWords_walk (m n wd sh : Int) (w : World) (m0 : -9223372036854775808 ≤ m) (m1 : m ≤ 9223372036854775807) (n0 : -9223372036854775808 ≤ n) (n1 : n ≤ 9223372036854775807) (w0 : 0 ≤ wd) (w1 : wd ≤ 255) (s0 : 0 ≤ sh) (s1 : sh ≤ 255) :
    Calls Try.prog 10 #[.int .i64 m, .int .i64 n, .int .u8 wd, .int .u8 sh] w (Mk (.bool true) w) := by
  have HB := hide (Below.refl w.heap.size w)
  obtain ⟨v, hv⟩ : ∃ v : Nat, wd % 64 = v := ⟨(wd % 64).toNat, by omega⟩
  have hv1 : wd.tmod 64 = v := by rw [Int.tmod_eq_emod_of_nonneg w0]; exact hv
  have hv2 : v < 64 := by omega
  obtain ⟨S, hvS⟩ : ∃ S : Nat, v + S = 63 := ⟨63 - v, by omega⟩
  have HVS := hide hvS
  have hS3 : S < 64 := by omega
  obtain ⟨W, hW0⟩ : ∃ W, W = v + 1 := ⟨_, rfl⟩
  have hW : (1 : Int) + (v : Int) = W := by omega
  have HW0 := hide hW0
  clear hW0
  have hW2 : (W : Int) ≤ 64 := by omega
  have hW3 : (1 : Int) ≤ W := by omega
  have hS2 : (64 : Int) - (W : Int) = S := by omega
  obtain ⟨K, rfl⟩ := Int.eq_ofNat_of_zero_le s0
  have wS := hide (wrap_small hS3)
  obtain ⟨MK, hMK⟩ : ∃ MK : Int, (18446744073709551615 : Int) / 2 ^ S = MK := ⟨_, rfl⟩
  have HMK := hide hMK
  obtain ⟨X, hX⟩ : ∃ X, Hid (IntKind.i64.wrap (m * 2 ^ S) = X) := ⟨_, hide rfl⟩
  obtain ⟨Y, hY⟩ : ∃ X, Hid (IntKind.i64.wrap (n * 2 ^ S) = X) := ⟨_, hide rfl⟩
  obtain ⟨M, hM⟩ : ∃ X', Hid (X / 2 ^ S = X') := ⟨_, hide rfl⟩
  obtain ⟨N, hN⟩ : ∃ X', Hid (Y / 2 ^ S = X') := ⟨_, hide rfl⟩
  go_enter Try.func10, Try.ntmps10
  go_wp2_with fail
  refine (awake_any _).mono ?_
  rintro e w1 ⟨rfl, hb⟩
  replace HB := hide (HB.out.trans (hb.mono HB.out.size))
  clear hb
  go_upto_region 4 with fail
  refine region_anyT (S := fun w1 => True) (n := 15) (by kernel_rfl) trivial (fun hS inv => ?_)
  refine anyT_take (i := 0) (oi := _) (v := .int .i64 m) rfl (by kernel_rfl) (by kernel_rfl) (by kernel_rfl) (by decide) (by decide) (by kernel_rfl) (by kernel_rfl) inv (fun _ _ _ h => h) (Or.inl ⟨by kernel_rfl, ?_⟩) hS (fun inv => ?_)
  · intro wz hSw
    go_simp
  (try simp only [Act.put, List.setIfInBounds_toArray, List.set_cons_zero, List.set_cons_succ])
  refine anyT_take (i := 1) (oi := _) (v := .int .i64 (W : Int)) rfl (by kernel_rfl) (by kernel_rfl) (by kernel_rfl) (by decide) (by decide) (by kernel_rfl) (by kernel_rfl) inv (fun _ _ _ h => h) (Or.inl ⟨by kernel_rfl, ?_⟩) hS (fun inv => ?_)
  · intro wz hSw
    go_simp
  (try simp only [Act.put, List.setIfInBounds_toArray, List.set_cons_zero, List.set_cons_succ])
  refine anyT_take (i := 2) (oi := _) (v := .int .i64 (S : Int)) rfl (by kernel_rfl) (by kernel_rfl) (by kernel_rfl) (by decide) (by decide) (by kernel_rfl) (by kernel_rfl) inv (fun _ _ _ h => h) (Or.inl ⟨by kernel_rfl, ?_⟩) hS (fun inv => ?_)
  · intro wz hSw
    go_simp
    exact wS.out
  (try simp only [Act.put, List.setIfInBounds_toArray, List.set_cons_zero, List.set_cons_succ])
  refine anyT_take (i := 3) (oi := _) (v := .int .i64 X) rfl (by kernel_rfl) (by kernel_rfl) (by kernel_rfl) (by decide) (by decide) (by kernel_rfl) (by kernel_rfl) inv (fun _ _ _ h => h) (Or.inl ⟨by kernel_rfl, ?_⟩) hS (fun inv => ?_)
  · intro wz hSw
    go_simp
    exact hX.out
  (try simp only [Act.put, List.setIfInBounds_toArray, List.set_cons_zero, List.set_cons_succ])
  refine anyT_take (i := 4) (oi := _) (v := .int .i64 (W : Int)) rfl (by kernel_rfl) (by kernel_rfl) (by kernel_rfl) (by decide) (by decide) (by kernel_rfl) (by kernel_rfl) inv (fun _ _ _ h => h) (Or.inl ⟨by kernel_rfl, ?_⟩) hS (fun inv => ?_)
  · intro wz hSw
    go_simp
  (try simp only [Act.put, List.setIfInBounds_toArray, List.set_cons_zero, List.set_cons_succ])
  refine anyT_take (i := 5) (oi := _) (v := .int .i64 (S : Int)) rfl (by kernel_rfl) (by kernel_rfl) (by kernel_rfl) (by decide) (by decide) (by kernel_rfl) (by kernel_rfl) inv (fun _ _ _ h => h) (Or.inl ⟨by kernel_rfl, ?_⟩) hS (fun inv => ?_)
  · intro wz hSw
    go_simp
    exact wS.out
  (try simp only [Act.put, List.setIfInBounds_toArray, List.set_cons_zero, List.set_cons_succ])
  refine anyT_take (i := 6) (oi := _) (v := .int .i64 M) rfl (by kernel_rfl) (by kernel_rfl) (by kernel_rfl) (by decide) (by decide) (by kernel_rfl) (by kernel_rfl) inv (fun _ _ _ h => h) (Or.inl ⟨by kernel_rfl, ?_⟩) hS (fun inv => ?_)
  · intro wz hSw
    go_simp
    exact hM.out
  (try simp only [Act.put, List.setIfInBounds_toArray, List.set_cons_zero, List.set_cons_succ])
  refine anyT_take (i := 7) (oi := _) (v := .int .i64 n) rfl (by kernel_rfl) (by kernel_rfl) (by kernel_rfl) (by decide) (by decide) (by kernel_rfl) (by kernel_rfl) inv (fun _ _ _ h => h) (Or.inl ⟨by kernel_rfl, ?_⟩) hS (fun inv => ?_)
  · intro wz hSw
    go_simp
  (try simp only [Act.put, List.setIfInBounds_toArray, List.set_cons_zero, List.set_cons_succ])
  refine anyT_take (i := 8) (oi := _) (v := .int .i64 (W : Int)) rfl (by kernel_rfl) (by kernel_rfl) (by kernel_rfl) (by decide) (by decide) (by kernel_rfl) (by kernel_rfl) inv (fun _ _ _ h => h) (Or.inl ⟨by kernel_rfl, ?_⟩) hS (fun inv => ?_)
  · intro wz hSw
    go_simp
  (try simp only [Act.put, List.setIfInBounds_toArray, List.set_cons_zero, List.set_cons_succ])
  refine anyT_take (i := 9) (oi := _) (v := .int .i64 (S : Int)) rfl (by kernel_rfl) (by kernel_rfl) (by kernel_rfl) (by decide) (by decide) (by kernel_rfl) (by kernel_rfl) inv (fun _ _ _ h => h) (Or.inl ⟨by kernel_rfl, ?_⟩) hS (fun inv => ?_)
  · intro wz hSw
    go_simp
    exact wS.out
  (try simp only [Act.put, List.setIfInBounds_toArray, List.set_cons_zero, List.set_cons_succ])
  refine anyT_take (i := 10) (oi := _) (v := .int .i64 Y) rfl (by kernel_rfl) (by kernel_rfl) (by kernel_rfl) (by decide) (by decide) (by kernel_rfl) (by kernel_rfl) inv (fun _ _ _ h => h) (Or.inl ⟨by kernel_rfl, ?_⟩) hS (fun inv => ?_)
  · intro wz hSw
    go_simp
    exact hY.out
  (try simp only [Act.put, List.setIfInBounds_toArray, List.set_cons_zero, List.set_cons_succ])
  refine anyT_take (i := 11) (oi := _) (v := .int .i64 (W : Int)) rfl (by kernel_rfl) (by kernel_rfl) (by kernel_rfl) (by decide) (by decide) (by kernel_rfl) (by kernel_rfl) inv (fun _ _ _ h => h) (Or.inl ⟨by kernel_rfl, ?_⟩) hS (fun inv => ?_)
  · intro wz hSw
    go_simp
  (try simp only [Act.put, List.setIfInBounds_toArray, List.set_cons_zero, List.set_cons_succ])
  refine anyT_take (i := 12) (oi := _) (v := .int .i64 (S : Int)) rfl (by kernel_rfl) (by kernel_rfl) (by kernel_rfl) (by decide) (by decide) (by kernel_rfl) (by kernel_rfl) inv (fun _ _ _ h => h) (Or.inl ⟨by kernel_rfl, ?_⟩) hS (fun inv => ?_)
  · intro wz hSw
    go_simp
    exact wS.out
  (try simp only [Act.put, List.setIfInBounds_toArray, List.set_cons_zero, List.set_cons_succ])
  refine anyT_take (i := 13) (oi := _) (v := .int .i64 N) rfl (by kernel_rfl) (by kernel_rfl) (by kernel_rfl) (by decide) (by decide) (by kernel_rfl) (by kernel_rfl) inv (fun _ _ _ h => h) (Or.inl ⟨by kernel_rfl, ?_⟩) hS (fun inv => ?_)
  · intro wz hSw
    go_simp
    exact hN.out
  (try simp only [Act.put, List.setIfInBounds_toArray, List.set_cons_zero, List.set_cons_succ])
  refine anyT_take (i := 14) (oi := _) (v := .int .i64 M) rfl (by kernel_rfl) (by kernel_rfl) (by kernel_rfl) (by decide) (by decide) (by kernel_rfl) (by kernel_rfl) inv (fun _ _ _ h => h) (Or.inl ⟨by kernel_rfl, ?_⟩) hS (fun inv => ?_)
  · intro wz hSw
    go_simp
  (try simp only [Act.put, List.setIfInBounds_toArray, List.set_cons_zero, List.set_cons_succ])
  refine anyT_ready (rs := [15]) (by kernel_rfl) (by simp) ?_
  refine ReadyT.tail (o := _) rfl (by decide) (fun K hK => ?_)
  go_simp
  refine hK.out _ _ ?_
  clear hK K
  (try simp only [Act.put, List.setIfInBounds_toArray, List.set_cons_zero, List.set_cons_succ])
  refine anyT_done (by kernel_rfl) ?_ _
  have BM := hide (word_bd HVS.out hX.out hM.out)
  have BN := hide (word_bd HVS.out hY.out hN.out)
  have mb0 := BM.out.2.2.1
  have mb1 := BM.out.2.2.2
  have nb0 := BN.out.2.2.1
  have nb1 := BN.out.2.2.2
  clear hX hY hM hN m0 m1 n0 n1
  replace HB := hide HB.out.drew
  go_wp2_with fail
  refine (from_rr M W _ (by omega) (by omega) (by omega)).mono ?_
  rintro e w2 ⟨ra, Aa, ca, Ea, rfl, Ca, Oa, hb⟩
  have La : ra.length ≤ 4096 := by rw [Ea.out, vz_length]; omega
  replace HB := hide (HB.out.trans (hb.mono HB.out.size))
  clear hb
  have Ra := hide Oa.out.rd
  clear Oa
  go_wp2_with fail
  refine (from_rr N W _ (by omega) (by omega) (by omega)).mono ?_
  rintro e w3 ⟨rb, Ab, cb, Eb, rfl, Cb, Ob, hb⟩
  have Lb : rb.length ≤ 4096 := by rw [Eb.out, vz_length]; omega
  replace Ra := hide (Ra.out.below hb)
  replace HB := hide (HB.out.trans (hb.mono HB.out.size))
  clear hb
  have Rb := hide Ob.out.rd
  clear Ob
  go_wp2_with fail
  refine (int_any _ ra _ _ La Ra.out).mono ?_
  rintro e w' ⟨hu, rfl⟩
  obtain rfl := int_is hu (m := M) (by rw [Ea.out, HW0.out]; exact sv_vz BM.out.1 BM.out.2.1) mb0 mb1
  clear hu
  go_wp2_with fail
  refine (uint_any _ ra _ _ La Ra.out).mono ?_
  rintro e w' ⟨hu, rfl⟩
  obtain ⟨U, hU⟩ : ∃ U, nv ra = U := ⟨_, rfl⟩
  obtain ⟨V, hV⟩ : ∃ U, nv rb = U := ⟨_, rfl⟩
  have HU := hide hU
  have HV := hide hV
  obtain rfl := uint_is hu hU (by rw [← hU]; exact word_lt (by rw [Ea.out, vz_length]; omega))
  clear hu hU hV
  have hMK2 := mask_is HVS.out HW0.out HMK.out
  have fU : bits BinOp.and IntKind.u64 (IntKind.u64.wrap M) MK = (U : Int) := by rw [hMK2, ← HU.out, Ea.out]; exact and_mask (by omega)
  have fV : bits BinOp.and IntKind.u64 (IntKind.u64.wrap N) MK = (V : Int) := by rw [hMK2, ← HV.out, Eb.out]; exact and_mask (by omega)
  have hUl : U < 2 ^ 64 := by rw [← HU.out]; exact word_lt (by rw [Ea.out, vz_length]; omega)
  have hVl : V < 2 ^ 64 := by rw [← HV.out]; exact word_lt (by rw [Eb.out, vz_length]; omega)
  have HUl := hide hUl
  have HVl := hide hVl
  have FU := hide fU
  have FV := hide fV
  clear hMK2 hUl hVl
  go_wp2_with fail
  refine (add_r _ _ ra rb _ _ _ La Lb Ra.out Rb.out).mono ?_
  rintro e w4 ⟨rt0, At0, ct0, Et0, rfl, Ct0, Ot0, hb⟩
  have Lt0 : rt0.length ≤ 4096 := by rw [Et0.out, vz_length]; exact La
  replace Ra := hide (Ra.out.below hb)
  replace Rb := hide (Rb.out.below hb)
  replace HB := hide (HB.out.trans (hb.mono HB.out.size))
  clear hb
  have Rt0 := hide Ot0.out.rd
  clear Ot0
  go_wp2_with fail
  refine (sub_r _ _ ra rb _ _ _ La Lb Ra.out Rb.out).mono ?_
  rintro e w5 ⟨rt1, At1, ct1, Et1, rfl, Ct1, Ot1, hb⟩
  have Lt1 : rt1.length ≤ 4096 := by rw [Et1.out, vz_length]; exact La
  replace Ra := hide (Ra.out.below hb)
  replace Rb := hide (Rb.out.below hb)
  replace Rt0 := hide (Rt0.out.below hb)
  replace HB := hide (HB.out.trans (hb.mono HB.out.size))
  clear hb
  have Rt1 := hide Ot1.out.rd
  clear Ot1
  go_wp2_with fail
  refine (mul_r _ _ ra rb _ _ _ La Lb Ra.out Rb.out).mono ?_
  rintro e w6 ⟨rt2, At2, ct2, Et2, rfl, Ct2, Ot2, hb⟩
  have Lt2 : rt2.length ≤ 4096 := by rw [Et2.out, vz_length]; exact La
  replace Ra := hide (Ra.out.below hb)
  replace Rb := hide (Rb.out.below hb)
  replace Rt0 := hide (Rt0.out.below hb)
  replace Rt1 := hide (Rt1.out.below hb)
  replace HB := hide (HB.out.trans (hb.mono HB.out.size))
  clear hb
  have Rt2 := hide Ot2.out.rd
  clear Ot2
  go_wp2_with fail
  refine (neg_r _ ra _ _ La Ra.out).mono ?_
  rintro e w7 ⟨rt3, At3, ct3, Et3, rfl, Ct3, Ot3, hb⟩
  have Lt3 : rt3.length ≤ 4096 := by rw [Et3.out, vz_length]; exact La
  replace Ra := hide (Ra.out.below hb)
  replace Rb := hide (Rb.out.below hb)
  replace Rt0 := hide (Rt0.out.below hb)
  replace Rt1 := hide (Rt1.out.below hb)
  replace Rt2 := hide (Rt2.out.below hb)
  replace HB := hide (HB.out.trans (hb.mono HB.out.size))
  clear hb
  have Rt3 := hide Ot3.out.rd
  clear Ot3
  go_wp2_with fail
  refine (shl_r _ ra _ K _ La Ra.out).mono ?_
  rintro e w8 ⟨rt4, At4, ct4, Et4, rfl, Ct4, Ot4, hb⟩
  have Lt4 : rt4.length ≤ 4096 := by rw [Et4.out, vz_length]; exact La
  replace Ra := hide (Ra.out.below hb)
  replace Rb := hide (Rb.out.below hb)
  replace Rt0 := hide (Rt0.out.below hb)
  replace Rt1 := hide (Rt1.out.below hb)
  replace Rt2 := hide (Rt2.out.below hb)
  replace Rt3 := hide (Rt3.out.below hb)
  replace HB := hide (HB.out.trans (hb.mono HB.out.size))
  clear hb
  have Rt4 := hide Ot4.out.rd
  clear Ot4
  go_wp2_with fail
  refine (sar_r _ ra _ K _ La Ra.out).mono ?_
  rintro e w9 ⟨rt5, At5, ct5, Et5, rfl, Ct5, Ot5, hb⟩
  have Lt5 : rt5.length ≤ 4096 := by rw [Et5.out, vz_length]; exact La
  replace Ra := hide (Ra.out.below hb)
  replace Rb := hide (Rb.out.below hb)
  replace Rt0 := hide (Rt0.out.below hb)
  replace Rt1 := hide (Rt1.out.below hb)
  replace Rt2 := hide (Rt2.out.below hb)
  replace Rt3 := hide (Rt3.out.below hb)
  replace Rt4 := hide (Rt4.out.below hb)
  replace HB := hide (HB.out.trans (hb.mono HB.out.size))
  clear hb
  have Rt5 := hide Ot5.out.rd
  clear Ot5
  go_wp2_with fail
  refine (shr_r _ ra _ K _ La Ra.out).mono ?_
  rintro e w10 ⟨rt6, At6, ct6, Et6, rfl, Ct6, Ot6, hb⟩
  have Lt6 : rt6.length ≤ 4096 := by rw [Et6.out, vz_length]; exact La
  replace Ra := hide (Ra.out.below hb)
  replace Rb := hide (Rb.out.below hb)
  replace Rt0 := hide (Rt0.out.below hb)
  replace Rt1 := hide (Rt1.out.below hb)
  replace Rt2 := hide (Rt2.out.below hb)
  replace Rt3 := hide (Rt3.out.below hb)
  replace Rt4 := hide (Rt4.out.below hb)
  replace Rt5 := hide (Rt5.out.below hb)
  replace HB := hide (HB.out.trans (hb.mono HB.out.size))
  clear hb
  have Rt6 := hide Ot6.out.rd
  clear Ot6
  go_wp2_with fail
  have hW64 : W ≤ 64 := by omega
  have hsa : sv ra = M := by rw [Ea.out, HW0.out]; exact sv_vz BM.out.1 BM.out.2.1
  have F0 : Wd W rt0 (wrap64 (M + N)) := wd_wrap hW64 (by rw [Et0.out, Ea.out, Eb.out, vz_length, vz_addl, vz_addr])
  have F1 : Wd W rt1 (wrap64 (M - N)) := wd_wrap hW64 (by rw [Et1.out, Ea.out, Eb.out, vz_length, vz_subl, vz_subr])
  have F2 : Wd W rt2 (wrap64 (M * N)) := wd_wrap hW64 (by rw [Et2.out, Ea.out, Eb.out, vz_length, vz_mull, vz_mulr])
  have F3 : Wd W rt3 (wrap64 (-M)) := wd_wrap hW64 (by rw [Et3.out, Ea.out, vz_length, vz_neg])
  have F4 : Wd W rt4 (wrap64 (M * 2 ^ min K 64)) := wd_wrap hW64 (by rw [Et4.out, Ea.out, vz_length, vz_mull, Int.toNat_natCast, shl_min64 hW64])
  have F5 : Wd W rt5 (M / 2 ^ min K 64) := ⟨by rw [Et5.out, hsa, Ea.out, vz_length, Int.toNat_natCast, ediv_min K (by omega) (by omega)], ediv_bd _ mb0 mb1⟩
  have F6 : Wd W rt6 (wrap64 ((U : Int) / 2 ^ min K 64)) := wd_wrap hW64 (by rw [Et6.out, HU.out, Ea.out, vz_length, Int.toNat_natCast, ediv_min K (by omega) (by have := HUl.out; omega)])
  generalize hZ : World.alloc w10 _ = Z
  have hI : ∀ k, k < 7 → Item Z w10.heap.size W k := by rw [← hZ]; exact items Rt0.out F0 Rt1.out F1 Rt2.out F2 Rt3.out F3 Rt4.out F4 Rt5.out F5 Rt6.out F6
  have hb : Below w10.heap.size w10 Z := by rw [← hZ]; exact (Below.refl _ _).alloc (Nat.le_refl _) _
  have hgZ : w10.heap.size < Z.heap.size := by rw [← hZ]; simp
  have HI := hide hI
  clear hI hZ F0 F1 F2 F3 F4 F5 F6 hsa hW64
  clear Rt0
  clear Rt1
  clear Rt2
  clear Rt3
  clear Rt4
  clear Rt5
  clear Rt6
  replace Ra := hide (Ra.out.below hb)
  replace Rb := hide (Rb.out.below hb)
  replace HB := hide (HB.out.trans (hb.mono HB.out.size))
  clear hb
  go_loopw [155] (fun i wr => ∃ k : Nat, k ≤ 7 ∧ i = .int .i64 k ∧ Below Z.heap.size Z wr) (fun i _ => 7 - (intOf i).toNat)
  case atStart => exact ⟨0, by omega, rfl, Below.refl _ _⟩
  case round =>
    obtain ⟨k, hk, rfl, hR⟩ := hrel
    have hRH := hide hR
    clear hR
    by_cases hlt : k < 7
    · obtain ⟨D, ld, cd, z, h1, h2, hd, el, z0, z1⟩ := HI.out k hlt
      have hgr : w10.heap.size < wr.heap.size := by have := hRH.out.size; omega
      have k1 : wr.cell? ⟨w10.heap.size, k * 2, none⟩ = some (.slice D ld.length cd) := (hRH.out.cell (p := ⟨w10.heap.size, k * 2, none⟩) hgZ).trans h1
      have k2 : wr.cell? ⟨w10.heap.size, k * 2 + 1, none⟩ = some (.int .i64 z) := (hRH.out.cell (p := ⟨w10.heap.size, k * 2 + 1, none⟩) hgZ).trans h2
      have Rq := hide (hd.below hRH.out)
      have El := hide el
      clear h1 h2 hd el
      go_wp2_with fail
      generalize hY : World.alloc wr _ = Y2
      have e2 : ∀ i, Y2.cell? ⟨wr.heap.size, i, none⟩ = #[.slice D ld.length cd, .int .i64 z][i]? := fun i => by rw [← hY]; exact cell_of_row _ _ _ _ _ _ (heap_alloc_new wr _)
      have y1 : Y2.cell? ⟨wr.heap.size, 0, none⟩ = some (.slice D ld.length cd) := e2 0
      have y2 : Y2.cell? ⟨wr.heap.size, 1, none⟩ = some (.int .i64 z) := e2 1
      have hyl : wr.heap.size < Y2.heap.size := by rw [← hY]; simp
      have hbY := hide (show Below wr.heap.size wr Y2 by rw [← hY]; exact (Below.refl _ _).alloc (Nat.le_refl _) _)
      clear e2 hY k1 k2
      have RqY := hide (Rq.out.below hbY.out)
      have Lq : ld.length ≤ 4096 := by rw [El.out, vz_length]; omega
      refine region_anyT (S := fun w1 => Below Y2.heap.size Y2 w1) (n := 7) (by kernel_rfl) (Below.refl _ _).drew (fun hS inv => ?_)
      refine anyT_take (i := 0) (oi := _) (v := .pointer (some ⟨wr.heap.size, 0, none⟩)) rfl (by kernel_rfl) (by kernel_rfl) (by kernel_rfl) (by decide) (by decide) (by kernel_rfl) (by kernel_rfl) inv (fun _ _ _ h => h) (Or.inl ⟨by kernel_rfl, ?_⟩) hS (fun inv => ?_)
      · intro wz hSw
        go_simp
      (try simp only [Act.put, List.setIfInBounds_toArray, List.set_cons_zero, List.set_cons_succ])
      refine anyT_take (i := 1) (oi := _) (v := .slice D ld.length cd) rfl (by kernel_rfl) (by kernel_rfl) (by kernel_rfl) (by decide) (by decide) (by kernel_rfl) (by kernel_rfl) inv (fun _ _ _ h => h) (Or.inl ⟨by kernel_rfl, ?_⟩) hS (fun inv => ?_)
      · intro wz hSw
        have hk1 := (hSw : Below _ _ _).cell (p := ⟨wr.heap.size, 0, none⟩) (by assumption); go_simp
      (try simp only [Act.put, List.setIfInBounds_toArray, List.set_cons_zero, List.set_cons_succ])
      refine anyT_take (i := 2) (oi := _) (v := .pointer (some ⟨wr.heap.size, 1, none⟩)) rfl (by kernel_rfl) (by kernel_rfl) (by kernel_rfl) (by decide) (by decide) (by kernel_rfl) (by kernel_rfl) inv (fun _ _ _ h => h) (Or.inl ⟨by kernel_rfl, ?_⟩) hS (fun inv => ?_)
      · intro wz hSw
        go_simp
      (try simp only [Act.put, List.setIfInBounds_toArray, List.set_cons_zero, List.set_cons_succ])
      refine anyT_take (i := 3) (oi := _) (v := .int .i64 z) rfl (by kernel_rfl) (by kernel_rfl) (by kernel_rfl) (by decide) (by decide) (by kernel_rfl) (by kernel_rfl) inv (fun _ _ _ h => h) (Or.inl ⟨by kernel_rfl, ?_⟩) hS (fun inv => ?_)
      · intro wz hSw
        have hk1 := (hSw : Below _ _ _).cell (p := ⟨wr.heap.size, 1, none⟩) (by assumption); go_simp
      (try simp only [Act.put, List.setIfInBounds_toArray, List.set_cons_zero, List.set_cons_succ])
      refine anyT_take (i := 4) (oi := _) (v := .int .i64 (W : Int)) rfl (by kernel_rfl) (by kernel_rfl) (by kernel_rfl) (by decide) (by decide) (by kernel_rfl) (by kernel_rfl) inv (fun _ _ _ h => h) (Or.inl ⟨by kernel_rfl, ?_⟩) hS (fun inv => ?_)
      · intro wz hSw
        go_simp
      (try simp only [Act.put, List.setIfInBounds_toArray, List.set_cons_zero, List.set_cons_succ])
      refine anyT_ready (rs := [5]) (by kernel_rfl) (by simp) ?_
      refine ReadyT.head (o := _) rfl (by decide) (by kernel_rfl) inv (fun K hK => ?_) ReadyT.nil
      go_simp
      refine (of_any z W _ (by omega) z0 z1).mono ?_
      rintro e wo ⟨ro, Ao, co, Eo, rfl, Co, Oo, hbo⟩
      go_wp2_with fail
      refine hK.out _ _ ?_ (fun hS inv => ?_)
      · exact hS.trans (hbo.mono hS.size)
      clear hK K
      (try simp only [Act.put, List.setIfInBounds_toArray, List.set_cons_zero, List.set_cons_succ])
      refine anyT_ready (rs := [6]) (by kernel_rfl) (by simp) ?_
      refine ReadyT.head (o := _) rfl (by decide) (by kernel_rfl) inv (fun K hK => ?_) ReadyT.nil
      go_simp
      refine (same_yes _ _ ld ro _ _ _ Lq (RqY.out.below hS) Oo.out.rd (by rw [El.out, Eo.out])).mono ?_
      rintro e ws ⟨rfl, hbs⟩
      go_wp2_with fail
      refine hK.out _ _ ?_ (fun hS inv => ?_)
      · exact hS.trans (hbs.mono hS.size)
      clear hK K
      (try simp only [Act.put, List.setIfInBounds_toArray, List.set_cons_zero, List.set_cons_succ])
      refine anyT_ready (rs := [7]) (by kernel_rfl) (by simp) ?_
      refine ReadyT.tail (o := _) rfl (by decide) (fun K hK => ?_)
      go_simp
      refine hK.out _ _ ?_
      clear hK K
      (try simp only [Act.put, List.setIfInBounds_toArray, List.set_cons_zero, List.set_cons_succ])
      refine anyT_done (by kernel_rfl) ?_ _
      go_wp2
      go_roundw
      case rel => exact ⟨k + 1, by omega, by go_num, by first | exact (hRH.out.trans (hbY.out.mono hRH.out.size)).trans (hS.mono (by have := hbY.out.size; have := hRH.out.size; omega)) | exact ((hRH.out.trans (hbY.out.mono hRH.out.size)).trans (hS.mono (by have := hbY.out.size; have := hRH.out.size; omega))).drew⟩
      case measure => simp [intOf]; omega
    · have ek : k = 7 := by omega
      subst ek
      have hb := hRH.out
      clear HI hRH
      replace Ra := hide (Ra.out.below hb)
      replace Rb := hide (Rb.out.below hb)
      replace HB := hide (HB.out.trans (hb.mono HB.out.size))
      clear hb
      have HsA := hide (show sv ra = M by rw [Ea.out, HW0.out]; exact sv_vz BM.out.1 BM.out.2.1)
      have HsB := hide (show sv rb = N by rw [Eb.out, HW0.out]; exact sv_vz BN.out.1 BN.out.2.1)
      have HlA := hide (show ra.length = W by rw [Ea.out, vz_length])
      by_cases hN : N = 0
      · have d1 : (N != 0) = false := by rw [hN]; rfl
        have d2 : (N == 0) = true := by rw [hN]; rfl
        have d3 : decide (N = 0) = true := by rw [hN]; rfl
        have HN := hide hN
        clear hN
        go_wp2_with fail
        have hc := hide (scmp_any _ _ ra rb ca cb _ La Lb Ra.out Rb.out)
        have hd := hide (cmp_any _ _ ra rb ca cb _ La Lb Ra.out Rb.out)
        rw [HsA.out, HsB.out] at hc
        rw [HU.out, HV.out] at hd
        obtain ⟨z2, ez, hz2⟩ : ∃ z2, cmp U V = z2 ∧ (z2 < 0 ↔ U < V) := ⟨_, rfl, by rw [cmp_lt]; omega⟩
        rw [ez] at hd
        obtain ⟨z1, ey, hy1, hy2⟩ : ∃ z1, cmp M N = z1 ∧ (z1 < 0 ↔ M < N) ∧ (z1 = 0 ↔ M = N) := ⟨_, rfl, cmp_lt, cmp_eq_zero⟩
        rw [ey] at hc
        clear ez ey
        have i1 : decide (z1 < 0) = decide (M < N) := by simp only [hy1]
        have i2 : (z1 == 0) = (M == N) := by rw [Bool.eq_iff_iff]; simp [hy2]
        have i3 : decide (z1 = 0) = decide (M = N) := by simp only [hy2]
        have i4 : decide (z2 < 0) = decide (U < V) := by simp only [hz2]
        go_wp2_with (first | (go_at_call 28; (with_reducible refine (hc.out).mono ?_); rintro e w' ⟨rfl, rfl⟩) | (go_at_call 26; (with_reducible refine (hd.out).mono ?_); rintro e w' ⟨rfl, rfl⟩))
        all_goals go_ret
        all_goals first | exact ⟨rfl, HB.out⟩ | exact ⟨by show Ending.returned (Value.bool _) = _; simp [hy1, hy2, hz2], HB.out⟩
      · have d1 : (N != 0) = true := by simp [hN]
        have d2 : (N == 0) = false := by simp [hN]
        have d3 : decide (N = 0) = false := by simp [hN]
        have Hb0 : Hid (0 < nv rb) := hide (nz_of (by rw [Eb.out, HW0.out, sv_vz BN.out.1 BN.out.2.1]; exact hN))
        go_wp2_with fail
        refine (sdiv_r _ _ ra rb _ _ _ La Lb Ra.out Rb.out Hb0.out).mono ?_
        rintro e wd1 ⟨rq, Aq, cq, rr, Ar, cr, Eq, Er, rfl, Oq, Or, hb⟩
        have Lq : rq.length ≤ 4096 := by rw [Eq.out, vz_length]; first | omega | simp
        have Lr : rr.length ≤ 4096 := by rw [Er.out, vz_length]; first | omega | simp
        replace Ra := hide (Ra.out.below hb)
        replace Rb := hide (Rb.out.below hb)
        replace HB := hide (HB.out.trans (hb.mono HB.out.size))
        clear hb
        have Rq := hide Oq.out.rd
        clear Oq
        have Rr := hide Or.out.rd
        clear Or
        go_wp2_with fail
        refine (div_r _ _ ra rb _ _ _ La Lb Ra.out Rb.out Hb0.out).mono ?_
        rintro e wd2 ⟨rs, As, cs, rt, At, ct, Es, Et, rfl, Os, Ot, hb⟩
        have Ls : rs.length ≤ 4096 := by rw [Es.out, vz_length]; first | omega | simp
        have Lt : rt.length ≤ 4096 := by rw [Et.out, vz_length]; first | omega | simp
        replace Ra := hide (Ra.out.below hb)
        replace Rb := hide (Rb.out.below hb)
        replace Rq := hide (Rq.out.below hb)
        replace Rr := hide (Rr.out.below hb)
        replace HB := hide (HB.out.trans (hb.mono HB.out.size))
        clear hb
        have Rs := hide Os.out.rd
        clear Os
        have Rt := hide Ot.out.rd
        clear Ot
        go_wp2_with fail
        refine (of_any _ W _ (by omega) (wrap_lo _) (wrap_hi _)).mono ?_
        rintro e wd3 ⟨ro1, Ao1, co1, Eo1, rfl, Co1, Oo1, hb⟩
        have Lo1 : ro1.length ≤ 4096 := by rw [Eo1.out, vz_length]; omega
        replace Ra := hide (Ra.out.below hb)
        replace Rb := hide (Rb.out.below hb)
        replace Rq := hide (Rq.out.below hb)
        replace Rr := hide (Rr.out.below hb)
        replace Rs := hide (Rs.out.below hb)
        replace Rt := hide (Rt.out.below hb)
        replace HB := hide (HB.out.trans (hb.mono HB.out.size))
        clear hb
        have Ro1 := hide Oo1.out.rd
        clear Oo1
        go_wp2_with fail
        refine (same_yes _ _ _ _ _ _ _ Lq Rq.out Ro1.out (by rw [Eq.out, Eo1.out, vz_wrap (by omega), HsA.out, HsB.out, HlA.out])).mono ?_
        rintro e wd4 ⟨rfl, hb⟩
        replace Ra := hide (Ra.out.below hb)
        replace Rb := hide (Rb.out.below hb)
        replace Rq := hide (Rq.out.below hb)
        replace Rr := hide (Rr.out.below hb)
        replace Rs := hide (Rs.out.below hb)
        replace Rt := hide (Rt.out.below hb)
        replace Ro1 := hide (Ro1.out.below hb)
        replace HB := hide (HB.out.trans (hb.mono HB.out.size))
        clear hb
        clear Rq
        clear Ro1
        go_wp2_with fail
        refine (of_any (M.tmod N) W _ (by omega) (tm_lo mb0 mb1) (tm_hi mb0 mb1)).mono ?_
        rintro e wd5 ⟨ro2, Ao2, co2, Eo2, rfl, Co2, Oo2, hb⟩
        have Lo2 : ro2.length ≤ 4096 := by rw [Eo2.out, vz_length]; omega
        replace Ra := hide (Ra.out.below hb)
        replace Rb := hide (Rb.out.below hb)
        replace Rr := hide (Rr.out.below hb)
        replace Rs := hide (Rs.out.below hb)
        replace Rt := hide (Rt.out.below hb)
        replace HB := hide (HB.out.trans (hb.mono HB.out.size))
        clear hb
        have Ro2 := hide Oo2.out.rd
        clear Oo2
        go_wp2_with fail
        refine (same_yes _ _ _ _ _ _ _ Lr Rr.out Ro2.out (by rw [Er.out, Eo2.out, HsA.out, HsB.out, HlA.out])).mono ?_
        rintro e wd6 ⟨rfl, hb⟩
        replace Ra := hide (Ra.out.below hb)
        replace Rb := hide (Rb.out.below hb)
        replace Rr := hide (Rr.out.below hb)
        replace Rs := hide (Rs.out.below hb)
        replace Rt := hide (Rt.out.below hb)
        replace Ro2 := hide (Ro2.out.below hb)
        replace HB := hide (HB.out.trans (hb.mono HB.out.size))
        clear hb
        clear Rr
        clear Ro2
        have hV0 : ¬ V = 0 := by have h1 := Hb0.out; rw [HV.out] at h1; omega
        go_wp2_with fail
        refine (of_any _ W _ (by omega) (wrap_lo _) (wrap_hi _)).mono ?_
        rintro e wd7 ⟨ro3, Ao3, co3, Eo3, rfl, Co3, Oo3, hb⟩
        have Lo3 : ro3.length ≤ 4096 := by rw [Eo3.out, vz_length]; omega
        replace Ra := hide (Ra.out.below hb)
        replace Rb := hide (Rb.out.below hb)
        replace Rs := hide (Rs.out.below hb)
        replace Rt := hide (Rt.out.below hb)
        replace HB := hide (HB.out.trans (hb.mono HB.out.size))
        clear hb
        have Ro3 := hide Oo3.out.rd
        clear Oo3
        go_wp2_with fail
        refine (same_yes _ _ _ _ _ _ _ Ls Rs.out Ro3.out (by rw [Es.out, Eo3.out, HU.out, HV.out, HlA.out]; first | exact (quo_is (by omega) HUl.out).symm | exact (quo_is2 (by omega) HUl.out).symm)).mono ?_
        rintro e wd8 ⟨rfl, hb⟩
        replace Ra := hide (Ra.out.below hb)
        replace Rb := hide (Rb.out.below hb)
        replace Rs := hide (Rs.out.below hb)
        replace Rt := hide (Rt.out.below hb)
        replace Ro3 := hide (Ro3.out.below hb)
        replace HB := hide (HB.out.trans (hb.mono HB.out.size))
        clear hb
        clear Rs
        clear Ro3
        go_wp2_with fail
        refine (of_any _ W _ (by omega) (wrap_lo _) (wrap_hi _)).mono ?_
        rintro e wd9 ⟨ro4, Ao4, co4, Eo4, rfl, Co4, Oo4, hb⟩
        have Lo4 : ro4.length ≤ 4096 := by rw [Eo4.out, vz_length]; omega
        replace Ra := hide (Ra.out.below hb)
        replace Rb := hide (Rb.out.below hb)
        replace Rt := hide (Rt.out.below hb)
        replace HB := hide (HB.out.trans (hb.mono HB.out.size))
        clear hb
        have Ro4 := hide Oo4.out.rd
        clear Oo4
        go_wp2_with fail
        refine (same_yes _ _ _ _ _ _ _ Lt Rt.out Ro4.out (by rw [Et.out, Eo4.out, HU.out, HV.out, HlA.out]; first | exact (mod_is (by omega) HUl.out).symm | exact (mod_is2 (by omega) HUl.out).symm)).mono ?_
        rintro e wd10 ⟨rfl, hb⟩
        replace Ra := hide (Ra.out.below hb)
        replace Rb := hide (Rb.out.below hb)
        replace Rt := hide (Rt.out.below hb)
        replace Ro4 := hide (Ro4.out.below hb)
        replace HB := hide (HB.out.trans (hb.mono HB.out.size))
        clear hb
        clear Rt
        clear Ro4
        go_wp2_with fail
        have hc := hide (scmp_any _ _ ra rb ca cb _ La Lb Ra.out Rb.out)
        have hd := hide (cmp_any _ _ ra rb ca cb _ La Lb Ra.out Rb.out)
        rw [HsA.out, HsB.out] at hc
        rw [HU.out, HV.out] at hd
        obtain ⟨z2, ez, hz2⟩ : ∃ z2, cmp U V = z2 ∧ (z2 < 0 ↔ U < V) := ⟨_, rfl, by rw [cmp_lt]; omega⟩
        rw [ez] at hd
        obtain ⟨z1, ey, hy1, hy2⟩ : ∃ z1, cmp M N = z1 ∧ (z1 < 0 ↔ M < N) ∧ (z1 = 0 ↔ M = N) := ⟨_, rfl, cmp_lt, cmp_eq_zero⟩
        rw [ey] at hc
        clear ez ey
        have i1 : decide (z1 < 0) = decide (M < N) := by simp only [hy1]
        have i2 : (z1 == 0) = (M == N) := by rw [Bool.eq_iff_iff]; simp [hy2]
        have i3 : decide (z1 = 0) = decide (M = N) := by simp only [hy2]
        have i4 : decide (z2 < 0) = decide (U < V) := by simp only [hz2]
        go_wp2_with (first | (go_at_call 28; (with_reducible refine (hc.out).mono ?_); rintro e w' ⟨rfl, rfl⟩) | (go_at_call 26; (with_reducible refine (hd.out).mono ?_); rintro e w' ⟨rfl, rfl⟩))
        all_goals go_ret
        all_goals first | exact ⟨rfl, HB.out⟩ | exact ⟨by show Ending.returned (Value.bool _) = _; simp [hy1, hy2, hz2], HB.out⟩
end Go.Proofs.Ytkjiaflmaniplaa
