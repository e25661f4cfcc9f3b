/-
  The walk of BvShiftMatches.
-/
import Derived.Test.YtkjiaflmaniplaaBvBB
namespace Go.Proofs.Ytkjiaflmaniplaa
open Go.RowKit
set_option linter.unusedSimpArgs false
set_option linter.unusedVariables false

def UM (a : List Bool) : Int := if nv a < 2 ^ 64 then nv a else 0
def UB (a : List Bool) : Bool := decide (nv a < 2 ^ 64)
theorem UintA.val {a : List Bool} {e : Ending} (h : UintA a e) : e = .returned (.tuple #[.int .u64 (UM a), .bool (UB a)]) := by
  rcases h with ⟨h, rfl⟩ | ⟨h, rfl⟩
  · unfold UM UB; rw [if_pos h, decide_eq_true h]
  · unfold UM UB; rw [if_neg (by omega), decide_eq_false (by omega)]
def IM (a : List Bool) : Int := if -9223372036854775808 ≤ sv a ∧ sv a ≤ 9223372036854775807 then sv a else 0
def IB (a : List Bool) : Bool := decide (-9223372036854775808 ≤ sv a ∧ sv a ≤ 9223372036854775807)
theorem IntA.val {a : List Bool} {e : Ending} (h : IntA a e) : e = .returned (.tuple #[.int .i64 (IM a), .bool (IB a)]) := by
  rcases h with ⟨h1, h2, rfl⟩ | ⟨h, rfl⟩
  · unfold IM IB; rw [if_pos ⟨h1, h2⟩, decide_eq_true ⟨h1, h2⟩]
  · unfold IM IB; rw [if_neg h, decide_eq_false h]
theorem from_r (z : Int) (n : Nat) (w : World) (hn : n ≤ 128) (h1 : -9223372036854775808 ≤ z) (h2 : z ≤ 9223372036854775807) :
    Calls Try.prog 38 #[.int .i64 z, .int .i64 n] w (RetF (vz n z) w) :=
  (from_any z n w hn h1 h2).mono fun _ _ ⟨A, c, he, h1, h2, h3, h4⟩ => ⟨vz n z, A, c, hide rfl, by rw [he, vz_length], hide ⟨by rw [vz_length]; exact h1, h2⟩, hide h3, h4⟩
structure MD3 (w : World) (A X V : Option Addr) (a x v : List Bool) (wr : World) : Prop where
  ra : Rd wr A a
  rx : Rd wr X x
  rv : Rd wr V v
  bel : Below w.heap.size w wr
theorem MD3.next {w wr w' : World} {A X V : Option Addr} {a x v : List Bool} (h : MD3 w A X V a x v wr) (hb : Below wr.heap.size wr w') : MD3 w A X V a x v w' :=
  ⟨h.ra.below hb, h.rx.below hb, h.rv.below hb, h.bel.trans (hb.mono h.bel.size)⟩
set_option maxRecDepth 100000 in
set_option maxHeartbeats 8000000 in
theorem BvShiftMatches_walk (A : Option Addr) (ra : List Bool) (ca : Nat) (n z wd : Int) (w : World) (ka : ra.length ≤ maxLen) (Ra0 : Rd w A ra) (Ca : Hid (ra.length ≤ ca ∧ ca ≤ maxLen)) (n0 : -9223372036854775808 ≤ n) (n1 : n ≤ 9223372036854775807) (z0 : -9223372036854775808 ≤ z) (z1 : z ≤ 9223372036854775807) (d0 : -9223372036854775808 ≤ wd) (d1 : wd ≤ 9223372036854775807) :
    Calls Try.prog 5 #[.slice A ra.length ca, .int .i64 n, .int .i64 z, .int .i64 wd] w (Mk (.bool true) w) := by
  have HB := hide (Below.refl w.heap.size w)
  have Ra := hide Ra0
  clear Ra0
  by_cases ha : ra.length ≤ 140
  · have La : ra.length ≤ 4096 := by omega
    go_enter Try.func5, Try.ntmps5
    go_wp2_with fail
    have hb := (Below.refl w.heap.size w).alloc (Nat.le_refl _) (.cells #[.slice A ra.length ca] 22)
    replace Ra := hide (Ra.out.below hb)
    replace HB := hide (HB.out.trans (hb.mono HB.out.size))
    clear hb
    refine (long_no w.heap.size 1 [(A, ra.length, ca)] _ (by simp) (sls1 w A _ _) (by intro i hi; match i, hi with | 0, _ => exact ha)).mono ?_
    rintro e w' ⟨rfl, rfl⟩
    go_wp2_with fail
    refine (own_any _ ra _ _ La Ra.out).mono ?_
    rintro e w1 ⟨rx, Ax, cx, Ex, rfl, Cx, Ox, hb⟩
    have Lx : rx.length ≤ 4096 := by rw [Ex.out]; exact La
    replace Ra := hide (Ra.out.below hb)
    replace HB := hide (HB.out.trans (hb.mono HB.out.size))
    clear hb
    have Rx := hide Ox.out.rd
    clear Ox
    have hlx : rx.length ≤ 140 := by rw [Ex.out]; exact ha
    by_cases hw : 0 ≤ wd ∧ wd ≤ 128
    · obtain ⟨hw0, hw1⟩ := hw
      obtain ⟨nw, rfl⟩ := Int.eq_ofNat_of_zero_le hw0
      go_wp2_with fail
      refine (rfrom_any z nw _ (by omega) z0 z1).mono ?_
      rintro e w2 ⟨rv, Av, cv, Ev, rfl, Cv, Ov, hb⟩
      have Lv : rv.length ≤ 4096 := by rw [Ev.out, vz_length]; omega
      replace Ra := hide (Ra.out.below hb)
      replace Rx := hide (Rx.out.below hb)
      replace HB := hide (HB.out.trans (hb.mono HB.out.size))
      clear hb
      have Rv := hide Ov.out.rd
      have MR0 := hide (MD3.mk (w := w) Ra.out Rx.out Rv.out HB.out)
      clear Ra Rx Rv HB
      go_wp2
      go_loopw [12] (fun i wr => ∃ k : Nat, k ≤ 2 ∧ i = .int .i64 k ∧ MD3 w A Ax Av ra rx rv wr) (fun i _ => 2 - (intOf i).toNat)
      case atStart => exact ⟨0, by omega, rfl, MR0.out⟩
      case round =>
        clear MR0
        obtain ⟨k, hk, rfl, hR⟩ := hrel
        have hRH := hide hR
        clear hR
        have Ra := hide hRH.out.ra
        have Rx := hide hRH.out.rx
        have Rv := hide hRH.out.rv
        have HB := hide hRH.out.bel
        by_cases hlt : k < 2
        · have HW := hide (Below.refl wr.heap.size wr)
          go_wp2_with fail
          refine (shl_r _ rx _ n _ Lx Rx.out).mono ?_
          rintro e wi1 ⟨rs1, As1, cs1, Es1, rfl, Cs1, Os1, hb⟩
          have Ls1 : rs1.length ≤ 4096 := by rw [Es1.out, vz_length]; exact Lx
          replace Os1 := hide (Os1.out.base HW.out.size)
          replace HW := hide (HW.out.trans (hb.mono HW.out.size))
          replace Ra := hide (Ra.out.below hb)
          replace Rx := hide (Rx.out.below hb)
          replace Rv := hide (Rv.out.below hb)
          replace HB := hide (HB.out.trans (hb.mono HB.out.size))
          clear hb
          have Rs1 := hide Os1.out.rd
          go_wp2_with fail
          refine (shr_r _ rx _ n _ Lx Rx.out).mono ?_
          rintro e wi2 ⟨rs2, As2, cs2, Es2, rfl, Cs2, Os2, hb⟩
          have Ls2 : rs2.length ≤ 4096 := by rw [Es2.out, vz_length]; exact Lx
          replace Os2 := hide (Os2.out.base HW.out.size)
          replace HW := hide (HW.out.trans (hb.mono HW.out.size))
          replace Ra := hide (Ra.out.below hb)
          replace Rx := hide (Rx.out.below hb)
          replace Rv := hide (Rv.out.below hb)
          replace Rs1 := hide (Rs1.out.below hb)
          replace Os1 := hide (Os1.out.kept hb)
          replace HB := hide (HB.out.trans (hb.mono HB.out.size))
          clear hb
          have Rs2 := hide Os2.out.rd
          go_wp2_with fail
          refine (sar_r _ rx _ n _ Lx Rx.out).mono ?_
          rintro e wi3 ⟨rs3, As3, cs3, Es3, rfl, Cs3, Os3, hb⟩
          have Ls3 : rs3.length ≤ 4096 := by rw [Es3.out, vz_length]; exact Lx
          replace Os3 := hide (Os3.out.base HW.out.size)
          replace HW := hide (HW.out.trans (hb.mono HW.out.size))
          replace Ra := hide (Ra.out.below hb)
          replace Rx := hide (Rx.out.below hb)
          replace Rv := hide (Rv.out.below hb)
          replace Rs1 := hide (Rs1.out.below hb)
          replace Rs2 := hide (Rs2.out.below hb)
          replace Os1 := hide (Os1.out.kept hb)
          replace Os2 := hide (Os2.out.kept hb)
          replace HB := hide (HB.out.trans (hb.mono HB.out.size))
          clear hb
          have Rs3 := hide Os3.out.rd
          clear Rx
          go_wp2_with fail
          refine (from_r z nw _ (by omega) z0 z1).mono ?_
          rintro e wi4 ⟨rs4, As4, cs4, Es4, rfl, Cs4, Os4, hb⟩
          have Ls4 : rs4.length ≤ 4096 := by rw [Es4.out, vz_length]; omega
          replace Os4 := hide (Os4.out.base HW.out.size)
          replace HW := hide (HW.out.trans (hb.mono HW.out.size))
          replace Ra := hide (Ra.out.below hb)
          replace Rv := hide (Rv.out.below hb)
          replace Rs1 := hide (Rs1.out.below hb)
          replace Rs2 := hide (Rs2.out.below hb)
          replace Rs3 := hide (Rs3.out.below hb)
          replace Os1 := hide (Os1.out.kept hb)
          replace Os2 := hide (Os2.out.kept hb)
          replace Os3 := hide (Os3.out.kept hb)
          replace HB := hide (HB.out.trans (hb.mono HB.out.size))
          clear hb
          have Rs4 := hide Os4.out.rd
          go_wp2_with fail
          refine (same_yes _ _ _ _ _ _ _ Ls4 Rs4.out Rv.out (by rw [Es4.out, Ev.out])).mono ?_
          rintro e wi5 ⟨rfl, hb⟩
          replace HW := hide (HW.out.trans (hb.mono HW.out.size))
          replace Ra := hide (Ra.out.below hb)
          replace Rv := hide (Rv.out.below hb)
          replace Rs1 := hide (Rs1.out.below hb)
          replace Rs2 := hide (Rs2.out.below hb)
          replace Rs3 := hide (Rs3.out.below hb)
          replace Rs4 := hide (Rs4.out.below hb)
          replace Os1 := hide (Os1.out.kept hb)
          replace Os2 := hide (Os2.out.kept hb)
          replace Os3 := hide (Os3.out.kept hb)
          replace Os4 := hide (Os4.out.kept hb)
          replace HB := hide (HB.out.trans (hb.mono HB.out.size))
          clear hb
          go_wp2_with fail
          refine (rshl_any _ ra _ n _ (by omega) n1 Ra.out).mono ?_
          rintro e wi6 ⟨rts1, Ats1, cts1, Ets1, rfl, Cts1, Ots1, hb⟩
          have Lts1 : rts1.length ≤ 4096 := by rw [Ets1.out, vz_length]; exact La
          replace HW := hide (HW.out.trans (hb.mono HW.out.size))
          replace Ra := hide (Ra.out.below hb)
          replace Rv := hide (Rv.out.below hb)
          replace Rs1 := hide (Rs1.out.below hb)
          replace Rs2 := hide (Rs2.out.below hb)
          replace Rs3 := hide (Rs3.out.below hb)
          replace Rs4 := hide (Rs4.out.below hb)
          replace Os1 := hide (Os1.out.kept hb)
          replace Os2 := hide (Os2.out.kept hb)
          replace Os3 := hide (Os3.out.kept hb)
          replace Os4 := hide (Os4.out.kept hb)
          replace HB := hide (HB.out.trans (hb.mono HB.out.size))
          clear hb
          have Rts1 := hide Ots1.out.rd
          clear Ots1
          go_wp2_with fail
          refine (same_yes _ _ _ _ _ _ _ Ls1 Rs1.out Rts1.out (by rw [Es1.out, Ets1.out, Ex.out])).mono ?_
          rintro e wi7 ⟨rfl, hb⟩
          replace HW := hide (HW.out.trans (hb.mono HW.out.size))
          replace Ra := hide (Ra.out.below hb)
          replace Rv := hide (Rv.out.below hb)
          replace Rs1 := hide (Rs1.out.below hb)
          replace Rs2 := hide (Rs2.out.below hb)
          replace Rs3 := hide (Rs3.out.below hb)
          replace Rs4 := hide (Rs4.out.below hb)
          replace Rts1 := hide (Rts1.out.below hb)
          replace Os1 := hide (Os1.out.kept hb)
          replace Os2 := hide (Os2.out.kept hb)
          replace Os3 := hide (Os3.out.kept hb)
          replace Os4 := hide (Os4.out.kept hb)
          replace HB := hide (HB.out.trans (hb.mono HB.out.size))
          clear hb
          clear Rts1
          go_wp2_with fail
          refine (rshr_any _ ra _ n _ La n1 Ra.out).mono ?_
          rintro e wi8 ⟨rts2, Ats2, cts2, Ets2, rfl, Cts2, Ots2, hb⟩
          have Lts2 : rts2.length ≤ 4096 := by rw [Ets2.out, vz_length]; exact La
          replace HW := hide (HW.out.trans (hb.mono HW.out.size))
          replace Ra := hide (Ra.out.below hb)
          replace Rv := hide (Rv.out.below hb)
          replace Rs1 := hide (Rs1.out.below hb)
          replace Rs2 := hide (Rs2.out.below hb)
          replace Rs3 := hide (Rs3.out.below hb)
          replace Rs4 := hide (Rs4.out.below hb)
          replace Os1 := hide (Os1.out.kept hb)
          replace Os2 := hide (Os2.out.kept hb)
          replace Os3 := hide (Os3.out.kept hb)
          replace Os4 := hide (Os4.out.kept hb)
          replace HB := hide (HB.out.trans (hb.mono HB.out.size))
          clear hb
          have Rts2 := hide Ots2.out.rd
          clear Ots2
          go_wp2_with fail
          refine (same_yes _ _ _ _ _ _ _ Ls2 Rs2.out Rts2.out (by rw [Es2.out, Ets2.out, Ex.out])).mono ?_
          rintro e wi9 ⟨rfl, hb⟩
          replace HW := hide (HW.out.trans (hb.mono HW.out.size))
          replace Ra := hide (Ra.out.below hb)
          replace Rv := hide (Rv.out.below hb)
          replace Rs1 := hide (Rs1.out.below hb)
          replace Rs2 := hide (Rs2.out.below hb)
          replace Rs3 := hide (Rs3.out.below hb)
          replace Rs4 := hide (Rs4.out.below hb)
          replace Rts2 := hide (Rts2.out.below hb)
          replace Os1 := hide (Os1.out.kept hb)
          replace Os2 := hide (Os2.out.kept hb)
          replace Os3 := hide (Os3.out.kept hb)
          replace Os4 := hide (Os4.out.kept hb)
          replace HB := hide (HB.out.trans (hb.mono HB.out.size))
          clear hb
          clear Rts2
          go_wp2_with fail
          refine (rsar_any _ ra _ n _ La n1 Ra.out).mono ?_
          rintro e wi10 ⟨rts3, Ats3, cts3, Ets3, rfl, Cts3, Ots3, hb⟩
          have Lts3 : rts3.length ≤ 4096 := by rw [Ets3.out, vz_length]; exact La
          replace HW := hide (HW.out.trans (hb.mono HW.out.size))
          replace Ra := hide (Ra.out.below hb)
          replace Rv := hide (Rv.out.below hb)
          replace Rs1 := hide (Rs1.out.below hb)
          replace Rs2 := hide (Rs2.out.below hb)
          replace Rs3 := hide (Rs3.out.below hb)
          replace Rs4 := hide (Rs4.out.below hb)
          replace Os1 := hide (Os1.out.kept hb)
          replace Os2 := hide (Os2.out.kept hb)
          replace Os3 := hide (Os3.out.kept hb)
          replace Os4 := hide (Os4.out.kept hb)
          replace HB := hide (HB.out.trans (hb.mono HB.out.size))
          clear hb
          have Rts3 := hide Ots3.out.rd
          clear Ots3
          go_wp2_with fail
          refine (same_yes _ _ _ _ _ _ _ Ls3 Rs3.out Rts3.out (by rw [Es3.out, Ets3.out, Ex.out])).mono ?_
          rintro e wi11 ⟨rfl, hb⟩
          replace HW := hide (HW.out.trans (hb.mono HW.out.size))
          replace Ra := hide (Ra.out.below hb)
          replace Rv := hide (Rv.out.below hb)
          replace Rs1 := hide (Rs1.out.below hb)
          replace Rs2 := hide (Rs2.out.below hb)
          replace Rs3 := hide (Rs3.out.below hb)
          replace Rs4 := hide (Rs4.out.below hb)
          replace Rts3 := hide (Rts3.out.below hb)
          replace Os1 := hide (Os1.out.kept hb)
          replace Os2 := hide (Os2.out.kept hb)
          replace Os3 := hide (Os3.out.kept hb)
          replace Os4 := hide (Os4.out.kept hb)
          replace HB := hide (HB.out.trans (hb.mono HB.out.size))
          clear hb
          clear Rts3
          clear Ra Rs1 Rs2 Rs3 Rs4 Rv
          go_wp2_with fail
          refine (spoil_any wr.heap.size wi11.heap.size 4 [(As1, rs1.length, cs1), (As2, rs2.length, cs2), (As3, rs3.length, cs3), (As4, rs4.length, cs4)] _ (by simp) (len4 Ls1 Ls2 Ls3 Ls4) (spr4 cs1 cs2 cs3 cs4 Os1.out Os2.out Os3.out Os4.out)).mono ?_
          rintro e wl ⟨rfl, hbl⟩
          have HL := hide ((HW.out.alloc HW.out.size (.cells #[.slice As1 rs1.length cs1, .slice As2 rs2.length cs2, .slice As3 rs3.length cs3, .slice As4 rs4.length cs4] 22)).trans hbl)
          clear hbl
          go_wp2
          go_roundw
          case rel => exact ⟨k + 1, by omega, by go_num, hRH.out.next HL.out⟩
          case measure => simp [intOf]; omega
        · skip
          clear Rv
          go_wp2_with fail
          refine (uint_any _ ra _ _ La Ra.out).mono ?_
          rintro e w' ⟨hu, rfl⟩
          obtain rfl := hu.val
          clear hu
          go_wp2_with fail
          refine (ruint_any _ ra _ _ La Ca Ra.out).mono ?_
          rintro e wj1 ⟨hu, hb⟩
          obtain rfl := hu.val
          clear hu
          replace Ra := hide (Ra.out.below hb)
          replace Rx := hide (Rx.out.below hb)
          replace HB := hide (HB.out.trans (hb.mono HB.out.size))
          clear hb
          go_wp2_with fail
          refine (int_any _ ra _ _ La Ra.out).mono ?_
          rintro e w' ⟨hu, rfl⟩
          obtain rfl := hu.val
          clear hu
          go_wp2_with fail
          refine (rint_any _ ra _ _ (by omega) Ca Ra.out).mono ?_
          rintro e wj2 ⟨hu, hb⟩
          obtain rfl := hu.val
          clear hu
          replace Ra := hide (Ra.out.below hb)
          replace Rx := hide (Rx.out.below hb)
          replace HB := hide (HB.out.trans (hb.mono HB.out.size))
          clear hb
          go_wp2_with fail
          refine (same_yes _ _ _ _ _ _ _ Lx Rx.out Ra.out (by exact Ex.out)).mono ?_
          rintro e wj3 ⟨rfl, hb⟩
          replace Ra := hide (Ra.out.below hb)
          replace Rx := hide (Rx.out.below hb)
          replace HB := hide (HB.out.trans (hb.mono HB.out.size))
          clear hb
          go_wp2_with fail
          refine (awake_any _).mono ?_
          rintro e wj4 ⟨rfl, hb⟩
          replace Ra := hide (Ra.out.below hb)
          replace Rx := hide (Rx.out.below hb)
          replace HB := hide (HB.out.trans (hb.mono HB.out.size))
          clear hb
          go_wp2_with fail
          go_ret
          exact ⟨rfl, HB.out⟩
    · have HWd := hide (show wd < 0 ∨ 128 < wd by omega)
      clear hw
      go_wp2_with fail
      refine (rfrom_err z wd _ HWd.out).mono ?_
      rintro e w' ⟨rfl, rfl⟩
      have MR0 := hide (MD3.mk (w := w) (V := none) (v := []) Ra.out Rx.out (fun h => absurd h (by simp)) HB.out)
      clear Ra Rx HB
      go_wp2
      go_loopw [12] (fun i wr => ∃ k : Nat, k ≤ 2 ∧ i = .int .i64 k ∧ MD3 w A Ax none ra rx [] wr) (fun i _ => 2 - (intOf i).toNat)
      case atStart => exact ⟨0, by omega, rfl, MR0.out⟩
      case round =>
        clear MR0
        obtain ⟨k, hk, rfl, hR⟩ := hrel
        have hRH := hide hR
        clear hR
        have Ra := hide hRH.out.ra
        have Rx := hide hRH.out.rx
        have HB := hide hRH.out.bel
        by_cases hlt : k < 2
        · have HW := hide (Below.refl wr.heap.size wr)
          go_wp2_with fail
          refine (shl_r _ rx _ n _ Lx Rx.out).mono ?_
          rintro e wi1 ⟨rs1, As1, cs1, Es1, rfl, Cs1, Os1, hb⟩
          have Ls1 : rs1.length ≤ 4096 := by rw [Es1.out, vz_length]; exact Lx
          replace Os1 := hide (Os1.out.base HW.out.size)
          replace HW := hide (HW.out.trans (hb.mono HW.out.size))
          replace Ra := hide (Ra.out.below hb)
          replace Rx := hide (Rx.out.below hb)
          replace HB := hide (HB.out.trans (hb.mono HB.out.size))
          clear hb
          have Rs1 := hide Os1.out.rd
          go_wp2_with fail
          refine (shr_r _ rx _ n _ Lx Rx.out).mono ?_
          rintro e wi2 ⟨rs2, As2, cs2, Es2, rfl, Cs2, Os2, hb⟩
          have Ls2 : rs2.length ≤ 4096 := by rw [Es2.out, vz_length]; exact Lx
          replace Os2 := hide (Os2.out.base HW.out.size)
          replace HW := hide (HW.out.trans (hb.mono HW.out.size))
          replace Ra := hide (Ra.out.below hb)
          replace Rx := hide (Rx.out.below hb)
          replace Rs1 := hide (Rs1.out.below hb)
          replace Os1 := hide (Os1.out.kept hb)
          replace HB := hide (HB.out.trans (hb.mono HB.out.size))
          clear hb
          have Rs2 := hide Os2.out.rd
          go_wp2_with fail
          refine (sar_r _ rx _ n _ Lx Rx.out).mono ?_
          rintro e wi3 ⟨rs3, As3, cs3, Es3, rfl, Cs3, Os3, hb⟩
          have Ls3 : rs3.length ≤ 4096 := by rw [Es3.out, vz_length]; exact Lx
          replace Os3 := hide (Os3.out.base HW.out.size)
          replace HW := hide (HW.out.trans (hb.mono HW.out.size))
          replace Ra := hide (Ra.out.below hb)
          replace Rx := hide (Rx.out.below hb)
          replace Rs1 := hide (Rs1.out.below hb)
          replace Rs2 := hide (Rs2.out.below hb)
          replace Os1 := hide (Os1.out.kept hb)
          replace Os2 := hide (Os2.out.kept hb)
          replace HB := hide (HB.out.trans (hb.mono HB.out.size))
          clear hb
          have Rs3 := hide Os3.out.rd
          clear Rx
          go_wp2_with fail
          refine (from_err z wd _ HWd.out).mono ?_
          rintro e w' ⟨rfl, rfl⟩
          go_wp2_with fail
          refine (same_yes none none [] [] 0 0 _ (by simp) (fun h => absurd h (by simp)) (fun h => absurd h (by simp)) rfl).mono ?_
          rintro e wi4 ⟨rfl, hb⟩
          replace HW := hide (HW.out.trans (hb.mono HW.out.size))
          replace Ra := hide (Ra.out.below hb)
          replace Rs1 := hide (Rs1.out.below hb)
          replace Rs2 := hide (Rs2.out.below hb)
          replace Rs3 := hide (Rs3.out.below hb)
          replace Os1 := hide (Os1.out.kept hb)
          replace Os2 := hide (Os2.out.kept hb)
          replace Os3 := hide (Os3.out.kept hb)
          replace HB := hide (HB.out.trans (hb.mono HB.out.size))
          clear hb
          go_wp2_with fail
          refine (rshl_any _ ra _ n _ (by omega) n1 Ra.out).mono ?_
          rintro e wi5 ⟨rts1, Ats1, cts1, Ets1, rfl, Cts1, Ots1, hb⟩
          have Lts1 : rts1.length ≤ 4096 := by rw [Ets1.out, vz_length]; exact La
          replace HW := hide (HW.out.trans (hb.mono HW.out.size))
          replace Ra := hide (Ra.out.below hb)
          replace Rs1 := hide (Rs1.out.below hb)
          replace Rs2 := hide (Rs2.out.below hb)
          replace Rs3 := hide (Rs3.out.below hb)
          replace Os1 := hide (Os1.out.kept hb)
          replace Os2 := hide (Os2.out.kept hb)
          replace Os3 := hide (Os3.out.kept hb)
          replace HB := hide (HB.out.trans (hb.mono HB.out.size))
          clear hb
          have Rts1 := hide Ots1.out.rd
          clear Ots1
          go_wp2_with fail
          refine (same_yes _ _ _ _ _ _ _ Ls1 Rs1.out Rts1.out (by rw [Es1.out, Ets1.out, Ex.out])).mono ?_
          rintro e wi6 ⟨rfl, hb⟩
          replace HW := hide (HW.out.trans (hb.mono HW.out.size))
          replace Ra := hide (Ra.out.below hb)
          replace Rs1 := hide (Rs1.out.below hb)
          replace Rs2 := hide (Rs2.out.below hb)
          replace Rs3 := hide (Rs3.out.below hb)
          replace Rts1 := hide (Rts1.out.below hb)
          replace Os1 := hide (Os1.out.kept hb)
          replace Os2 := hide (Os2.out.kept hb)
          replace Os3 := hide (Os3.out.kept hb)
          replace HB := hide (HB.out.trans (hb.mono HB.out.size))
          clear hb
          clear Rts1
          go_wp2_with fail
          refine (rshr_any _ ra _ n _ La n1 Ra.out).mono ?_
          rintro e wi7 ⟨rts2, Ats2, cts2, Ets2, rfl, Cts2, Ots2, hb⟩
          have Lts2 : rts2.length ≤ 4096 := by rw [Ets2.out, vz_length]; exact La
          replace HW := hide (HW.out.trans (hb.mono HW.out.size))
          replace Ra := hide (Ra.out.below hb)
          replace Rs1 := hide (Rs1.out.below hb)
          replace Rs2 := hide (Rs2.out.below hb)
          replace Rs3 := hide (Rs3.out.below hb)
          replace Os1 := hide (Os1.out.kept hb)
          replace Os2 := hide (Os2.out.kept hb)
          replace Os3 := hide (Os3.out.kept hb)
          replace HB := hide (HB.out.trans (hb.mono HB.out.size))
          clear hb
          have Rts2 := hide Ots2.out.rd
          clear Ots2
          go_wp2_with fail
          refine (same_yes _ _ _ _ _ _ _ Ls2 Rs2.out Rts2.out (by rw [Es2.out, Ets2.out, Ex.out])).mono ?_
          rintro e wi8 ⟨rfl, hb⟩
          replace HW := hide (HW.out.trans (hb.mono HW.out.size))
          replace Ra := hide (Ra.out.below hb)
          replace Rs1 := hide (Rs1.out.below hb)
          replace Rs2 := hide (Rs2.out.below hb)
          replace Rs3 := hide (Rs3.out.below hb)
          replace Rts2 := hide (Rts2.out.below hb)
          replace Os1 := hide (Os1.out.kept hb)
          replace Os2 := hide (Os2.out.kept hb)
          replace Os3 := hide (Os3.out.kept hb)
          replace HB := hide (HB.out.trans (hb.mono HB.out.size))
          clear hb
          clear Rts2
          go_wp2_with fail
          refine (rsar_any _ ra _ n _ La n1 Ra.out).mono ?_
          rintro e wi9 ⟨rts3, Ats3, cts3, Ets3, rfl, Cts3, Ots3, hb⟩
          have Lts3 : rts3.length ≤ 4096 := by rw [Ets3.out, vz_length]; exact La
          replace HW := hide (HW.out.trans (hb.mono HW.out.size))
          replace Ra := hide (Ra.out.below hb)
          replace Rs1 := hide (Rs1.out.below hb)
          replace Rs2 := hide (Rs2.out.below hb)
          replace Rs3 := hide (Rs3.out.below hb)
          replace Os1 := hide (Os1.out.kept hb)
          replace Os2 := hide (Os2.out.kept hb)
          replace Os3 := hide (Os3.out.kept hb)
          replace HB := hide (HB.out.trans (hb.mono HB.out.size))
          clear hb
          have Rts3 := hide Ots3.out.rd
          clear Ots3
          go_wp2_with fail
          refine (same_yes _ _ _ _ _ _ _ Ls3 Rs3.out Rts3.out (by rw [Es3.out, Ets3.out, Ex.out])).mono ?_
          rintro e wi10 ⟨rfl, hb⟩
          replace HW := hide (HW.out.trans (hb.mono HW.out.size))
          replace Ra := hide (Ra.out.below hb)
          replace Rs1 := hide (Rs1.out.below hb)
          replace Rs2 := hide (Rs2.out.below hb)
          replace Rs3 := hide (Rs3.out.below hb)
          replace Rts3 := hide (Rts3.out.below hb)
          replace Os1 := hide (Os1.out.kept hb)
          replace Os2 := hide (Os2.out.kept hb)
          replace Os3 := hide (Os3.out.kept hb)
          replace HB := hide (HB.out.trans (hb.mono HB.out.size))
          clear hb
          clear Rts3
          clear Ra Rs1 Rs2 Rs3
          go_wp2_with fail
          refine (spoil_any wr.heap.size wi10.heap.size 4 [(As1, rs1.length, cs1), (As2, rs2.length, cs2), (As3, rs3.length, cs3), (none, 0, 0)] _ (by simp) (len4 Ls1 Ls2 Ls3 (by omega)) (spr4 (D := none) (d := []) cs1 cs2 cs3 0 Os1.out Os2.out Os3.out (fun h => absurd h (by simp)))).mono ?_
          rintro e wl ⟨rfl, hbl⟩
          have HL := hide ((HW.out.alloc HW.out.size (.cells #[.slice As1 rs1.length cs1, .slice As2 rs2.length cs2, .slice As3 rs3.length cs3, .slice none 0 0] 22)).trans hbl)
          clear hbl
          go_wp2
          go_roundw
          case rel => exact ⟨k + 1, by omega, by go_num, hRH.out.next HL.out⟩
          case measure => simp [intOf]; omega
        · skip
          go_wp2_with fail
          refine (uint_any _ ra _ _ La Ra.out).mono ?_
          rintro e w' ⟨hu, rfl⟩
          obtain rfl := hu.val
          clear hu
          go_wp2_with fail
          refine (ruint_any _ ra _ _ La Ca Ra.out).mono ?_
          rintro e wj1 ⟨hu, hb⟩
          obtain rfl := hu.val
          clear hu
          replace Ra := hide (Ra.out.below hb)
          replace Rx := hide (Rx.out.below hb)
          replace HB := hide (HB.out.trans (hb.mono HB.out.size))
          clear hb
          go_wp2_with fail
          refine (int_any _ ra _ _ La Ra.out).mono ?_
          rintro e w' ⟨hu, rfl⟩
          obtain rfl := hu.val
          clear hu
          go_wp2_with fail
          refine (rint_any _ ra _ _ (by omega) Ca Ra.out).mono ?_
          rintro e wj2 ⟨hu, hb⟩
          obtain rfl := hu.val
          clear hu
          replace Ra := hide (Ra.out.below hb)
          replace Rx := hide (Rx.out.below hb)
          replace HB := hide (HB.out.trans (hb.mono HB.out.size))
          clear hb
          go_wp2_with fail
          refine (same_yes _ _ _ _ _ _ _ Lx Rx.out Ra.out (by exact Ex.out)).mono ?_
          rintro e wj3 ⟨rfl, hb⟩
          replace Ra := hide (Ra.out.below hb)
          replace Rx := hide (Rx.out.below hb)
          replace HB := hide (HB.out.trans (hb.mono HB.out.size))
          clear hb
          go_wp2_with fail
          refine (awake_any _).mono ?_
          rintro e wj4 ⟨rfl, hb⟩
          replace Ra := hide (Ra.out.below hb)
          replace Rx := hide (Rx.out.below hb)
          replace HB := hide (HB.out.trans (hb.mono HB.out.size))
          clear hb
          go_wp2_with fail
          go_ret
          exact ⟨rfl, HB.out⟩
  · have HK := hide ha
    have HA := hide ka
    clear ha ka
    go_enter Try.func5, Try.ntmps5
    go_wp2_with fail
    refine (long_yes w.heap.size 1 [(A, ra.length, ca)] _ (by simp) (sls1 w A _ _) ⟨0, by simp, by have := HK.out; show 140 < ra.length; omega⟩ (by intro i hi; match i, hi with | 0, _ => exact HA.out)).mono ?_
    rintro e w' ⟨rfl, rfl⟩
    go_wp2_with fail
    refine (awake_any _).mono ?_
    rintro e w1 ⟨rfl, hb⟩
    go_wp2_with fail
    go_ret
    exact ⟨rfl, ((Below.refl _ _).alloc (Nat.le_refl _) _).trans (hb.mono (by simp))⟩
end Go.Proofs.Ytkjiaflmaniplaa
