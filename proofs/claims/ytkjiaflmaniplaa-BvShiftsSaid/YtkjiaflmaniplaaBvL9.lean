/-
  The walk of BvShifts.
-/
import Derived.Test.YtkjiaflmaniplaaBvEE
namespace Go.Proofs.Ytkjiaflmaniplaa
open Go.RowKit
set_option linter.unusedSimpArgs false
set_option linter.unusedVariables false
set_option maxRecDepth 100000 in
set_option maxHeartbeats 8000000 in
theorem BvShifts_walk (A : Option Addr) (ra : List Bool) (ca : Nat) (m n : Int) (w : World) (ka : ra.length ≤ maxLen) (Ra0 : Rd w A ra) (m0 : 0 ≤ m) (m1 : m ≤ 255) (n0 : 0 ≤ n) (n1 : n ≤ 255) :
    Calls Try.prog 11 #[.slice A ra.length ca, .int .u8 m, .int .u8 n] w (Mk (.bool true) w) := by
  have HB := hide (Below.refl w.heap.size w)
  have Ra := hide Ra0
  clear Ra0
  unfold maxLen at ka
  obtain ⟨I, hI⟩ : ∃ I : Nat, m % 80 = I := ⟨(m % 80).toNat, by omega⟩
  obtain ⟨K, hK⟩ : ∃ K : Nat, n % 80 = K := ⟨(n % 80).toNat, by omega⟩
  have hI1 : m.tmod 80 = I := by rw [Int.tmod_eq_emod_of_nonneg m0]; exact hI
  have hK1 : n.tmod 80 = K := by rw [Int.tmod_eq_emod_of_nonneg n0]; exact hK
  have hI2 : I < 80 := by omega
  have hK2 : K < 80 := by omega
  by_cases hl : ra.length ≤ 140
  · have ha := hl
    have La : ra.length ≤ 4096 := by omega
    go_enter Try.func11, Try.ntmps11
    go_wp2_with fail
    have hb := (Below.refl w.heap.size w).alloc (Nat.le_refl _) (.cells #[.slice A ra.length ca] 22)
    replace Ra := hide (Ra.out.below hb)
    replace HB := hide (HB.out.trans (hb.mono HB.out.size))
    clear hb
    refine (long_no w.heap.size 1 [(A, ra.length, ca)] _ (by simp) (sls1 w A _ _) (by intro i hi; match i, hi with | 0, _ => exact ha)).mono ?_
    rintro e w' ⟨rfl, rfl⟩
    by_cases h70 : ra.length ≤ 70
    · skip
      go_wp2_with fail
      refine (awake_any _).mono ?_
      rintro e w1 ⟨rfl, hb⟩
      replace Ra := hide (Ra.out.below hb)
      replace HB := hide (HB.out.trans (hb.mono HB.out.size))
      clear hb
      go_wp2_with (first
  | (at_make; refine wpList_make_ow _ rfl _ _ rfl _ _ I rfl rfl rfl rfl (by omega) ?_; intro x1 hr1 hb1 hz1; have HR := hide hr1; clear hr1)
  | (at_builtin; refine wpList_append_bv _ rfl _ _ rfl w1.heap.size _ I (List.replicate I false) rfl (HR.out.alloc _) (some ⟨x1.heap.size, 0, none⟩) 1 1 [true] rfl rfl (one_rd _ _) (by simp; omega) (by simp; omega) ?_; intro v' x2 hown hb2; obtain ⟨rp, Ep⟩ : ∃ p, Hid (p = List.replicate I false ++ [true]) := ⟨_, hide rfl⟩; rw [← Ep.out] at hown; obtain ⟨Ap, cp, rfl, hp1, hp2, hp3⟩ := own_open hown; have Rp := hide hp3.rd; clear hown hp1 hp2 hp3))
      have hb := (hb1.alloc (by omega) _).trans hb2
      have Hp := hide (show nv rp = 2 ^ I by rw [Ep.out]; exact nv_pow I)
      have Lp : rp.length ≤ 4096 := by rw [Ep.out]; simp; omega
      clear hb1 hb2 hz1 HR Ep
      replace Ra := hide (Ra.out.below hb)
      replace HB := hide (HB.out.trans (hb.mono HB.out.size))
      clear hb
      refine (div_r _ _ ra rp _ _ _ La Lp Ra.out Rp.out (by rw [Hp.out]; exact Nat.pow_pos (by decide))).mono ?_
      rintro e w2 ⟨rq, Aq, cq, rr, Ar, cr, Eq, Er, rfl, Oq, Or, hb⟩
      have Lq : rq.length ≤ 4096 := by rw [Eq.out, vz_length]; exact La
      replace Ra := hide (Ra.out.below hb)
      replace Rp := hide (Rp.out.below hb)
      replace HB := hide (HB.out.trans (hb.mono HB.out.size))
      clear hb
      have Rq := hide Oq.out.rd
      clear Oq Or
      go_wp2_with fail
      refine (shl_r _ ra _ I _ La Ra.out).mono ?_
      rintro e w3 ⟨rs1, As1, cs1, Es1, rfl, Cs1, Os1, hb⟩
      have Ls1 : rs1.length ≤ 4096 := by rw [Es1.out, vz_length]; exact La
      replace Ra := hide (Ra.out.below hb)
      replace Rp := hide (Rp.out.below hb)
      replace Rq := hide (Rq.out.below hb)
      replace HB := hide (HB.out.trans (hb.mono HB.out.size))
      clear hb
      have Rs1 := hide Os1.out.rd
      clear Os1
      go_wp2_with fail
      refine (mul_r _ _ ra rp _ _ _ La Lp Ra.out Rp.out).mono ?_
      rintro e w4 ⟨rm1, Am1, cm1, Em1, rfl, Cm1, Om1, hb⟩
      have Lm1 : rm1.length ≤ 4096 := by rw [Em1.out, vz_length]; exact La
      replace Ra := hide (Ra.out.below hb)
      replace Rp := hide (Rp.out.below hb)
      replace Rq := hide (Rq.out.below hb)
      replace Rs1 := hide (Rs1.out.below hb)
      replace HB := hide (HB.out.trans (hb.mono HB.out.size))
      clear hb
      have Rm1 := hide Om1.out.rd
      clear Om1
      go_wp2_with fail
      refine (same_yes _ _ _ _ _ _ _ Ls1 Rs1.out Rm1.out (by rw [Es1.out, Em1.out, Hp.out, Int.toNat_natCast]; simp)).mono ?_
      rintro e w5 ⟨rfl, hb⟩
      replace Ra := hide (Ra.out.below hb)
      replace Rp := hide (Rp.out.below hb)
      replace Rq := hide (Rq.out.below hb)
      replace Rs1 := hide (Rs1.out.below hb)
      replace Rm1 := hide (Rm1.out.below hb)
      replace HB := hide (HB.out.trans (hb.mono HB.out.size))
      clear hb
      clear Rs1
      clear Rm1
      go_wp2_with fail
      refine (shr_r _ ra _ I _ La Ra.out).mono ?_
      rintro e w6 ⟨rs2, As2, cs2, Es2, rfl, Cs2, Os2, hb⟩
      have Ls2 : rs2.length ≤ 4096 := by rw [Es2.out, vz_length]; exact La
      replace Ra := hide (Ra.out.below hb)
      replace Rp := hide (Rp.out.below hb)
      replace Rq := hide (Rq.out.below hb)
      replace HB := hide (HB.out.trans (hb.mono HB.out.size))
      clear hb
      have Rs2 := hide Os2.out.rd
      clear Os2
      go_wp2_with fail
      refine (same_yes _ _ _ _ _ _ _ Ls2 Rs2.out Rq.out (by rw [Es2.out, Eq.out, Hp.out, Int.toNat_natCast]; simp)).mono ?_
      rintro e w7 ⟨rfl, hb⟩
      replace Ra := hide (Ra.out.below hb)
      replace Rp := hide (Rp.out.below hb)
      replace Rq := hide (Rq.out.below hb)
      replace Rs2 := hide (Rs2.out.below hb)
      replace HB := hide (HB.out.trans (hb.mono HB.out.size))
      clear hb
      clear Rs2
      clear Rq
      clear Rp
      go_wp2_with fail
      refine (shl_r _ ra _ I _ La Ra.out).mono ?_
      rintro e w8 ⟨rshlx, Ashlx, cshlx, Eshlx, rfl, Cshlx, Oshlx, hb⟩
      have Lshlx : rshlx.length ≤ 4096 := by rw [Eshlx.out, vz_length]; exact La
      replace Ra := hide (Ra.out.below hb)
      replace HB := hide (HB.out.trans (hb.mono HB.out.size))
      clear hb
      have Rshlx := hide Oshlx.out.rd
      clear Oshlx
      go_wp2_with fail
      refine (shl_r _ rshlx _ K _ Lshlx Rshlx.out).mono ?_
      rintro e w9 ⟨rshly, Ashly, cshly, Eshly, rfl, Cshly, Oshly, hb⟩
      have Lshly : rshly.length ≤ 4096 := by rw [Eshly.out, vz_length]; exact Lshlx
      replace Ra := hide (Ra.out.below hb)
      replace Rshlx := hide (Rshlx.out.below hb)
      replace HB := hide (HB.out.trans (hb.mono HB.out.size))
      clear hb
      have Rshly := hide Oshly.out.rd
      clear Oshly
      go_wp2_with fail
      refine (shl_r _ ra _ _ _ La Ra.out).mono ?_
      rintro e w10 ⟨rshlz, Ashlz, cshlz, Eshlz, rfl, Cshlz, Oshlz, hb⟩
      have Lshlz : rshlz.length ≤ 4096 := by rw [Eshlz.out, vz_length]; exact La
      replace Ra := hide (Ra.out.below hb)
      replace Rshlx := hide (Rshlx.out.below hb)
      replace Rshly := hide (Rshly.out.below hb)
      replace HB := hide (HB.out.trans (hb.mono HB.out.size))
      clear hb
      have Rshlz := hide Oshlz.out.rd
      clear Oshlz
      go_wp2_with fail
      refine (same_yes _ _ _ _ _ _ _ Lshly Rshly.out Rshlz.out (by rw [Eshly.out, Eshlz.out, Eshlx.out, vz_length, Int.toNat_natCast, Int.toNat_natCast, show ((I : Int) + (K : Int)).toNat = I + K from by omega]; exact shl_two ra.length _ I K)).mono ?_
      rintro e w11 ⟨rfl, hb⟩
      replace Ra := hide (Ra.out.below hb)
      replace Rshlx := hide (Rshlx.out.below hb)
      replace Rshly := hide (Rshly.out.below hb)
      replace Rshlz := hide (Rshlz.out.below hb)
      replace HB := hide (HB.out.trans (hb.mono HB.out.size))
      clear hb
      clear Rshlx
      clear Rshly
      clear Rshlz
      go_wp2_with fail
      refine (shr_r _ ra _ I _ La Ra.out).mono ?_
      rintro e w12 ⟨rshrx, Ashrx, cshrx, Eshrx, rfl, Cshrx, Oshrx, hb⟩
      have Lshrx : rshrx.length ≤ 4096 := by rw [Eshrx.out, vz_length]; exact La
      replace Ra := hide (Ra.out.below hb)
      replace HB := hide (HB.out.trans (hb.mono HB.out.size))
      clear hb
      have Rshrx := hide Oshrx.out.rd
      clear Oshrx
      go_wp2_with fail
      refine (shr_r _ rshrx _ K _ Lshrx Rshrx.out).mono ?_
      rintro e w13 ⟨rshry, Ashry, cshry, Eshry, rfl, Cshry, Oshry, hb⟩
      have Lshry : rshry.length ≤ 4096 := by rw [Eshry.out, vz_length]; exact Lshrx
      replace Ra := hide (Ra.out.below hb)
      replace Rshrx := hide (Rshrx.out.below hb)
      replace HB := hide (HB.out.trans (hb.mono HB.out.size))
      clear hb
      have Rshry := hide Oshry.out.rd
      clear Oshry
      go_wp2_with fail
      refine (shr_r _ ra _ _ _ La Ra.out).mono ?_
      rintro e w14 ⟨rshrz, Ashrz, cshrz, Eshrz, rfl, Cshrz, Oshrz, hb⟩
      have Lshrz : rshrz.length ≤ 4096 := by rw [Eshrz.out, vz_length]; exact La
      replace Ra := hide (Ra.out.below hb)
      replace Rshrx := hide (Rshrx.out.below hb)
      replace Rshry := hide (Rshry.out.below hb)
      replace HB := hide (HB.out.trans (hb.mono HB.out.size))
      clear hb
      have Rshrz := hide Oshrz.out.rd
      clear Oshrz
      go_wp2_with fail
      refine (same_yes _ _ _ _ _ _ _ Lshry Rshry.out Rshrz.out (by rw [Eshry.out, Eshrz.out, Eshrx.out, vz_length, Int.toNat_natCast, Int.toNat_natCast, show ((I : Int) + (K : Int)).toNat = I + K from by omega]; exact shr_two ra I K)).mono ?_
      rintro e w15 ⟨rfl, hb⟩
      replace Ra := hide (Ra.out.below hb)
      replace Rshrx := hide (Rshrx.out.below hb)
      replace Rshry := hide (Rshry.out.below hb)
      replace Rshrz := hide (Rshrz.out.below hb)
      replace HB := hide (HB.out.trans (hb.mono HB.out.size))
      clear hb
      clear Rshrx
      clear Rshry
      clear Rshrz
      go_wp2_with fail
      refine (sar_r _ ra _ I _ La Ra.out).mono ?_
      rintro e w16 ⟨rsarx, Asarx, csarx, Esarx, rfl, Csarx, Osarx, hb⟩
      have Lsarx : rsarx.length ≤ 4096 := by rw [Esarx.out, vz_length]; exact La
      replace Ra := hide (Ra.out.below hb)
      replace HB := hide (HB.out.trans (hb.mono HB.out.size))
      clear hb
      have Rsarx := hide Osarx.out.rd
      clear Osarx
      go_wp2_with fail
      refine (sar_r _ rsarx _ K _ Lsarx Rsarx.out).mono ?_
      rintro e w17 ⟨rsary, Asary, csary, Esary, rfl, Csary, Osary, hb⟩
      have Lsary : rsary.length ≤ 4096 := by rw [Esary.out, vz_length]; exact Lsarx
      replace Ra := hide (Ra.out.below hb)
      replace Rsarx := hide (Rsarx.out.below hb)
      replace HB := hide (HB.out.trans (hb.mono HB.out.size))
      clear hb
      have Rsary := hide Osary.out.rd
      clear Osary
      go_wp2_with fail
      refine (sar_r _ ra _ _ _ La Ra.out).mono ?_
      rintro e w18 ⟨rsarz, Asarz, csarz, Esarz, rfl, Csarz, Osarz, hb⟩
      have Lsarz : rsarz.length ≤ 4096 := by rw [Esarz.out, vz_length]; exact La
      replace Ra := hide (Ra.out.below hb)
      replace Rsarx := hide (Rsarx.out.below hb)
      replace Rsary := hide (Rsary.out.below hb)
      replace HB := hide (HB.out.trans (hb.mono HB.out.size))
      clear hb
      have Rsarz := hide Osarz.out.rd
      clear Osarz
      go_wp2_with fail
      refine (same_yes _ _ _ _ _ _ _ Lsary Rsary.out Rsarz.out (by rw [Esary.out, Esarz.out, Esarx.out, vz_length, Int.toNat_natCast, Int.toNat_natCast, show ((I : Int) + (K : Int)).toNat = I + K from by omega]; exact sar_two ra I K)).mono ?_
      rintro e w19 ⟨rfl, hb⟩
      replace Ra := hide (Ra.out.below hb)
      replace Rsarx := hide (Rsarx.out.below hb)
      replace Rsary := hide (Rsary.out.below hb)
      replace Rsarz := hide (Rsarz.out.below hb)
      replace HB := hide (HB.out.trans (hb.mono HB.out.size))
      clear hb
      clear Rsarx
      clear Rsary
      clear Rsarz
      have hmk := run_mk ra.length La
      go_upto_region 11 with fail
      go_cut [14, 15] (Two0 w19 ra.length)
      case first =>
        refine region_anyT (S := fun w1 => True) (n := 7) (by kernel_rfl) trivial (fun hS inv => ?_)
        refine anyT_take (i := 0) (oi := _) (v := .slice A ra.length ca) rfl (by kernel_rfl) (by kernel_rfl) (by kernel_rfl) (by decide) (by decide) (by kernel_rfl) (by kernel_rfl) inv (fun _ _ _ h => h) (Or.inl ⟨by kernel_rfl, ?_⟩) hS (fun inv => ?_)
        · intro wz hSw
          go_simp
        (try simp only [Act.put, List.setIfInBounds_toArray, List.set_cons_zero, List.set_cons_succ])
        refine anyT_take (i := 1) (oi := _) (v := .int .i64 ra.length) rfl (by kernel_rfl) (by kernel_rfl) (by kernel_rfl) (by decide) (by decide) (by kernel_rfl) (by kernel_rfl) inv (fun _ _ _ h => h) (Or.inl ⟨by kernel_rfl, ?_⟩) hS (fun inv => ?_)
        · intro wz hSw
          go_simp
        (try simp only [Act.put, List.setIfInBounds_toArray, List.set_cons_zero, List.set_cons_succ])
        refine anyT_take (i := 3) (oi := _) (v := .slice A ra.length ca) rfl (by kernel_rfl) (by kernel_rfl) (by kernel_rfl) (by decide) (by decide) (by kernel_rfl) (by kernel_rfl) inv (fun _ _ _ h => h) (Or.inl ⟨by kernel_rfl, ?_⟩) hS (fun inv => ?_)
        · intro wz hSw
          go_simp
        (try simp only [Act.put, List.setIfInBounds_toArray, List.set_cons_zero, List.set_cons_succ])
        refine anyT_take (i := 4) (oi := _) (v := .int .i64 ra.length) rfl (by kernel_rfl) (by kernel_rfl) (by kernel_rfl) (by decide) (by decide) (by kernel_rfl) (by kernel_rfl) inv (fun _ _ _ h => h) (Or.inl ⟨by kernel_rfl, ?_⟩) hS (fun inv => ?_)
        · intro wz hSw
          go_simp
        (try simp only [Act.put, List.setIfInBounds_toArray, List.set_cons_zero, List.set_cons_succ])
        have hmk := run_mk ra.length La
        refine anyT_ready (rs := [2, 5]) (by kernel_rfl) (by simp) ?_
        refine ReadyT.head (o := _) rfl (by decide) (by kernel_rfl) inv (fun KK hK => ?_) ?_
        · go_simp
          refine hK.out _ _ trivial (fun hS inv => ?_)
          clear hK KK
          (try simp only [Act.put, List.setIfInBounds_toArray, List.set_cons_zero, List.set_cons_succ])
          refine anyT_take (i := 6) (oi := _) (v := .slice (some ⟨w19.heap.size, 0, none⟩) ra.length ra.length) rfl (by kernel_rfl) (by kernel_rfl) (by kernel_rfl) (by decide) (by decide) (by kernel_rfl) (by kernel_rfl) inv (fun _ _ _ h => h) (Or.inl ⟨by kernel_rfl, ?_⟩) hS (fun inv => ?_)
          · intro wz hSw
            go_simp
          (try simp only [Act.put, List.setIfInBounds_toArray, List.set_cons_zero, List.set_cons_succ])
          refine anyT_ready (rs := [5]) (by kernel_rfl) (by simp) ?_
          refine ReadyT.head (o := _) rfl (by decide) (by kernel_rfl) inv (fun KK hK => ?_) ReadyT.nil
          go_simp
          refine hK.out _ _ trivial (fun hS inv => ?_)
          clear hK KK
          (try simp only [Act.put, List.setIfInBounds_toArray, List.set_cons_zero, List.set_cons_succ])
          refine anyT_ready (rs := [7]) (by kernel_rfl) (by simp) ?_
          refine ReadyT.tail (o := _) rfl (by decide) (fun KK hK => ?_)
          go_simp
          refine hK.out _ _ ?_
          clear hK KK
          (try simp only [Act.put, List.setIfInBounds_toArray, List.set_cons_zero, List.set_cons_succ])
          refine anyT_done (by kernel_rfl) ?_ _
          go_wp2_with fail
          go_meet
          exact two0_a w19 ra.length
        · refine ReadyT.head (o := _) rfl (by decide) (by kernel_rfl) inv (fun KK hK => ?_) ReadyT.nil
          go_simp
          refine hK.out _ _ trivial (fun hS inv => ?_)
          clear hK KK
          (try simp only [Act.put, List.setIfInBounds_toArray, List.set_cons_zero, List.set_cons_succ])
          refine anyT_ready (rs := [2]) (by kernel_rfl) (by simp) ?_
          refine ReadyT.head (o := _) rfl (by decide) (by kernel_rfl) inv (fun KK hK => ?_) ReadyT.nil
          go_simp
          refine hK.out _ _ trivial (fun hS inv => ?_)
          clear hK KK
          (try simp only [Act.put, List.setIfInBounds_toArray, List.set_cons_zero, List.set_cons_succ])
          refine anyT_take (i := 6) (oi := _) (v := .slice (some ⟨w19.heap.size + 1, 0, none⟩) ra.length ra.length) rfl (by kernel_rfl) (by kernel_rfl) (by kernel_rfl) (by decide) (by decide) (by kernel_rfl) (by kernel_rfl) inv (fun _ _ _ h => h) (Or.inl ⟨by kernel_rfl, ?_⟩) hS (fun inv => ?_)
          · intro wz hSw
            go_simp
          (try simp only [Act.put, List.setIfInBounds_toArray, List.set_cons_zero, List.set_cons_succ])
          refine anyT_ready (rs := [7]) (by kernel_rfl) (by simp) ?_
          refine ReadyT.tail (o := _) rfl (by decide) (fun KK hK => ?_)
          go_simp
          refine hK.out _ _ ?_
          clear hK KK
          (try simp only [Act.put, List.setIfInBounds_toArray, List.set_cons_zero, List.set_cons_succ])
          refine anyT_done (by kernel_rfl) ?_ _
          go_wp2_with fail
          go_meet
          exact two0_b w19 ra.length
      case rest =>
        obtain ⟨g, h, rfl, rfl, hne, hg, hh, hr1, hr2, hb1⟩ := hcut
        obtain ⟨b, hbv⟩ : ∃ b, b = bt ra (ra.length - 1) := ⟨_, rfl⟩
        have HBV := hide hbv
        clear hbv
        have S0 := hide (SR.mk (k := 0) (b := b) hne hg hh hr1 (hr2.congr fun j _ => by simp [Par]) hb1)
        have QB := hide HB.out
        clear hr1 hr2 hb1 hmk HB hne hg hh
        go_wp2
        go_loopw [16] (fun i wr => ∃ k : Nat, k ≤ ra.length ∧ i = .int .i64 k ∧ SR w19 g h ra.length k b wr) (fun i _ => ra.length - (intOf i).toNat)
        case atStart => exact ⟨0, Nat.zero_le _, rfl, S0.out⟩
        case round =>
          clear S0
          obtain ⟨k, hk, rfl, hR⟩ := hrel
          have hRH := hide hR
          clear hR
          by_cases hlt : k < ra.length
          · obtain ⟨mm, hm⟩ : ∃ mm, ra.length = mm + 1 := ⟨ra.length - 1, by omega⟩
            have hma : mm < ra.length := by omega
            have hmx : (ra.length : Int) - 1 = mm := by omega
            obtain ⟨ad, rfl, hlt1, hc0⟩ := Ra.out.at_ hma
            have hc : wr.cell? (ad.add mm) = some (.bool b) := by rw [hRH.out.bel.cell (p := ad.add mm) (by rw [block_of_add]; exact hlt1), hc0, HBV.out, show ra.length - 1 = mm by omega]
            have hcg : wr.cell? ⟨h, k, none⟩ = some (.bool (Par k (fun _ => b) k)) := hRH.out.sr.cell hlt
            have hf : wr.frozen? ⟨h, k, none⟩ = false := hRH.out.sr.free _
            clear hm hc0 hlt1
            go_wp2
            go_roundw
            case rel => exact ⟨k + 1, by omega, by go_num, hRH.out.next⟩
            case measure => simp [intOf]; omega
          · have ek : k = ra.length := by omega
            subst ek
            obtain ⟨rz, Ez⟩ : ∃ l, Hid (l = bl ra.length (fun _ => false)) := ⟨_, hide rfl⟩
            obtain ⟨rn, En⟩ : ∃ l, Hid (l = bl ra.length (fun _ => bt ra (ra.length - 1))) := ⟨_, hide rfl⟩
            have Rz := hide (row_rd hRH.out.zr)
            have Rn := hide (row_rd (hRH.out.sr.congr (G := fun _ => bt ra (ra.length - 1)) fun j hj => by unfold Par; rw [if_pos hj, HBV.out]))
            rw [← Ez.out] at Rz
            rw [← En.out] at Rn
            have Hlz := hide (show rz.length = ra.length by rw [Ez.out, bl_length])
            have Hln := hide (show rn.length = ra.length by rw [En.out, bl_length])
            replace Ra := hide (Ra.out.below hRH.out.bel)
            have HB := hide (QB.out.trans (hRH.out.bel.mono QB.out.size))
            clear hRH QB
            go_wp2_with fail
            refine (shl_r _ ra _ _ _ La Ra.out).mono ?_
            rintro e wj1 ⟨ry0, Ay0, cy0, Ey0, rfl, Cy0, Oy0, hb⟩
            have Ly0 : ry0.length ≤ 4096 := by rw [Ey0.out, vz_length]; exact La
            replace Ra := hide (Ra.out.below hb)
            replace Rz := hide (Rz.out.below hb)
            replace Rn := hide (Rn.out.below hb)
            replace HB := hide (HB.out.trans (hb.mono HB.out.size))
            clear hb
            have Ry0 := hide Oy0.out.rd
            clear Oy0
            go_wp2_with fail
            have hs := same_yes _ _ ry0 rz cy0 ra.length _ Ly0 Ry0.out Rz.out (by rw [Ey0.out, Ez.out, show ((ra.length : Int) + (I : Int)).toNat = ra.length + I from by omega]; exact shl_out ra I)
            rw [Hlz.out] at hs
            refine hs.mono ?_
            rintro e wk2 ⟨rfl, hb⟩
            clear hs
            replace Ra := hide (Ra.out.below hb)
            replace Rz := hide (Rz.out.below hb)
            replace Rn := hide (Rn.out.below hb)
            replace Ry0 := hide (Ry0.out.below hb)
            replace HB := hide (HB.out.trans (hb.mono HB.out.size))
            clear hb
            clear Ry0
            go_wp2_with fail
            refine (shr_r _ ra _ _ _ La Ra.out).mono ?_
            rintro e wj3 ⟨ry1, Ay1, cy1, Ey1, rfl, Cy1, Oy1, hb⟩
            have Ly1 : ry1.length ≤ 4096 := by rw [Ey1.out, vz_length]; exact La
            replace Ra := hide (Ra.out.below hb)
            replace Rz := hide (Rz.out.below hb)
            replace Rn := hide (Rn.out.below hb)
            replace HB := hide (HB.out.trans (hb.mono HB.out.size))
            clear hb
            have Ry1 := hide Oy1.out.rd
            clear Oy1
            go_wp2_with fail
            have hs := same_yes _ _ ry1 rz cy1 ra.length _ Ly1 Ry1.out Rz.out (by rw [Ey1.out, Ez.out, show ((ra.length : Int) + (I : Int)).toNat = ra.length + I from by omega]; exact shr_out ra I)
            rw [Hlz.out] at hs
            refine hs.mono ?_
            rintro e wk4 ⟨rfl, hb⟩
            clear hs
            replace Ra := hide (Ra.out.below hb)
            replace Rz := hide (Rz.out.below hb)
            replace Rn := hide (Rn.out.below hb)
            replace Ry1 := hide (Ry1.out.below hb)
            replace HB := hide (HB.out.trans (hb.mono HB.out.size))
            clear hb
            clear Ry1
            go_wp2_with fail
            refine (sar_r _ ra _ _ _ La Ra.out).mono ?_
            rintro e wj5 ⟨ry2, Ay2, cy2, Ey2, rfl, Cy2, Oy2, hb⟩
            have Ly2 : ry2.length ≤ 4096 := by rw [Ey2.out, vz_length]; exact La
            replace Ra := hide (Ra.out.below hb)
            replace Rz := hide (Rz.out.below hb)
            replace Rn := hide (Rn.out.below hb)
            replace HB := hide (HB.out.trans (hb.mono HB.out.size))
            clear hb
            have Ry2 := hide Oy2.out.rd
            clear Oy2
            go_wp2_with fail
            have hs := same_yes _ _ ry2 rn cy2 ra.length _ Ly2 Ry2.out Rn.out (by rw [Ey2.out, En.out, show ((ra.length : Int) + (I : Int)).toNat = ra.length + I from by omega]; exact sar_out ra I)
            rw [Hln.out] at hs
            refine hs.mono ?_
            rintro e wk6 ⟨rfl, hb⟩
            clear hs
            replace Ra := hide (Ra.out.below hb)
            replace Rz := hide (Rz.out.below hb)
            replace Rn := hide (Rn.out.below hb)
            replace Ry2 := hide (Ry2.out.below hb)
            replace HB := hide (HB.out.trans (hb.mono HB.out.size))
            clear hb
            clear Ry2
            go_wp2_with fail
            go_ret
            exact ⟨rfl, HB.out⟩
    · have HM := hide h70
      go_wp2_with fail
      refine (awake_any _).mono ?_
      rintro e w1 ⟨rfl, hb⟩
      replace Ra := hide (Ra.out.below hb)
      replace HB := hide (HB.out.trans (hb.mono HB.out.size))
      clear hb
      go_wp2_with fail
      go_ret
      exact ⟨rfl, HB.out⟩
  · have HK := hide hl
    have HA := hide ka
    clear hl ka
    go_enter Try.func11, Try.ntmps11
    go_wp2_with fail
    refine (long_yes w.heap.size 1 [(A, ra.length, ca)] _ (by simp) (sls1 w A _ _) ⟨0, by simp, by have := HK.out; simp; omega⟩ (by intro i hi; match i, hi with | 0, _ => exact HA.out)).mono ?_
    rintro e w' ⟨rfl, rfl⟩
    go_wp2_with fail
    refine (awake_any _).mono ?_
    rintro e w1 ⟨rfl, hb⟩
    go_wp2_with fail
    go_ret
    exact ⟨rfl, ((Below.refl _ _).alloc (Nat.le_refl _) _).trans (hb.mono (by simp))⟩
end Go.Proofs.Ytkjiaflmaniplaa
