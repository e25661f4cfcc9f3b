/-
  The contracts of the reference's Pow, divide, DivMod, SDivMod.
-/
import Derived.Test.YtkjiaflmaniplaaBvW
namespace Go.Proofs.Ytkjiaflmaniplaa
open Go.RowKit
set_option linter.unusedSimpArgs false
set_option linter.unusedVariables false

theorem half_step (b : List Bool) (m : Nat) : nv b / 2 ^ m = 2 * (nv b / 2 ^ (m + 1)) + (bt b m).toNat := by
  have h := zb_nv b m
  unfold zb at h
  have p : ((nv b / 2 ^ m : Nat) : Int) = (nv b : Int) / 2 ^ m := by simp
  rw [← p] at h
  rw [Nat.pow_succ, ← Nat.div_div_eq_div_mul]
  generalize nv b / 2 ^ m = x at *
  cases hb : bt b m
  · rw [hb] at h
    have := of_decide_eq_false h
    simp; omega
  · rw [hb] at h
    have := of_decide_eq_true h
    simp; omega
theorem full_zero (b : List Bool) : nv b / 2 ^ b.length = 0 := Nat.div_eq_of_lt (nv_lt b)

/-- A round of the reference's Pow. -/
structure RPowR (w : World) (n a e : Nat) (l : List Bool) (A : Option Addr) (wr : World) : Prop where
  len : l.length = n
  val : (nv l : Int) % 2 ^ n = (a : Int) ^ e % 2 ^ n
  own : Own w.heap.size wr A l
  bel : Below w.heap.size w wr
theorem rpow_sq {n a e : Nat} {x : Int} (h : x % 2 ^ n = (a : Int) ^ e % 2 ^ n) : (x * x) % 2 ^ n = (a : Int) ^ (2 * e) % 2 ^ n := by
  rw [Int.mul_emod, h, ← Int.mul_emod, ← Int.pow_add, Nat.two_mul]
theorem rpow_mul {n a e : Nat} {x : Int} (h : x % 2 ^ n = (a : Int) ^ e % 2 ^ n) : (x * a) % 2 ^ n = (a : Int) ^ (e + 1) % 2 ^ n := by
  rw [Int.mul_emod, h, ← Int.mul_emod, Int.pow_succ]

set_option maxHeartbeats 1000000 in
theorem rpow_any (A B : Option Addr) (a b : List Bool) (c d : Nat) (w : World) (ha : a.length ≤ 1000) (hb : b.length ≤ 1000) (hA : Rd w A a) (hB : Rd w B b) :
    Calls Try.prog 47 #[.slice A a.length c, .slice B b.length d] w (RetP (fun l => l = vz a.length ((nv a : Int) ^ nv b)) w) := by
  have HA := hide hA
  have HB := hide hB
  clear hA hB
  go_enter Try.func47, Try.ntmps47
  go_wp2_with fail
  refine (fit_any _ [true] 1 a.length _ (by simp) (by omega) (one_rd w true)).mono ?_
  rintro e w1 ⟨x, X, cx, Ex, rfl, Cx, Ox, hb1⟩
  have B1 := hide (((Below.refl w.heap.size w).alloc (Nat.le_refl _) (.cells #[.bool true] 4)).trans (hb1.mono (by simp)))
  have OX := hide (Ox.out.base (show w.heap.size ≤ _ by simp))
  clear hb1 Ox
  go_wp2
  go_loopw [5, 6] (fun v i wr => ∃ (k : Nat) (P : Option Addr) (p : List Bool) (cp : Nat), k ≤ b.length ∧ i = .int .i64 ((k : Int) - 1) ∧ v = .slice P p.length cp ∧ Hid (p.length ≤ cp ∧ cp ≤ maxLen) ∧ RPowR w a.length (nv a) (nv b / 2 ^ k) p P wr) (fun _ i _ => (intOf i + 1).toNat)
  case atStart =>
    refine ⟨b.length, X, x, cx, Nat.le_refl _, rfl, rfl, Cx, ⟨by rw [Ex.out, vz_length], ?_, OX.out, B1.out⟩⟩
    rw [Ex.out, nv_vz_mod, full_zero, Int.pow_zero]; rfl
  case round =>
    obtain ⟨k, P, p, cp, hk, rfl, rfl, hcp, hR⟩ := hrel
    have hRH := hide hR
    clear hR
    have hp : p.length ≤ 1000 := by have := hRH.out.len; omega
    rcases Nat.eq_zero_or_pos k with h0 | h0
    · subst h0
      go_wp2
      go_ret
      have e : p = vz a.length ((nv a : Int) ^ nv b) := eq_vz hRH.out.len (by have := hRH.out.val; rw [Nat.pow_zero, Nat.div_one] at this; exact this)
      exact ⟨p, P, cp, hide e, rfl, hcp, hide hRH.out.own, hRH.out.bel⟩
    · obtain ⟨m, rfl⟩ : ∃ m, k = m + 1 := ⟨k - 1, by omega⟩
      rw [show (((m + 1 : Nat)) : Int) - 1 = m by omega]
      have hmb : m < b.length := by omega
      have hst := hide (half_step b m)
      have HBr := hide (HB.out.below hRH.out.bel)
      go_wp2_with fail
      refine (rmul_any P P p p cp cp wr hp (by omega) hRH.out.own.rd hRH.out.own.rd).mono ?_
      rintro e w2 ⟨y, Y, cy, Ey, rfl, Cy, Oy, hb2⟩
      have B2 := hide (hRH.out.bel.trans (hb2.mono hRH.out.bel.size))
      have hy : y.length ≤ 1000 := by rw [Ey.out, vz_length]; exact hp
      have HB2 := HBr.out.below hb2
      have HA2 := hide (HA.out.below B2.out)
      obtain ⟨ad, rfl, hlt1, hc⟩ := HB2.at_ hmb
      have OY := hide (Oy.out.base hRH.out.bel.size)
      clear hb2 HB2 Oy
      cases hx : bt b m
      · rw [hx] at hc
        have hx' := hide hx
        clear hx
        go_wp2
        go_roundw
        case rel => exact ⟨m, Y, y, cy, by omega, rfl, rfl, Cy, ⟨by rw [Ey.out, vz_length]; exact hRH.out.len, by rw [hst.out, hx'.out, Ey.out, hRH.out.len, nv_vz_mod]; exact rpow_sq hRH.out.val, OY.out, B2.out⟩⟩
        case measure => first | (simp [intOf]; done) | (simp [intOf]; omega)
      · rw [hx] at hc
        have hx' := hide hx
        clear hx
        go_wp2_with fail
        refine (rmul_any Y A y a cy c w2 hy (by omega) OY.out.rd HA2.out).mono ?_
        rintro e w3 ⟨z, Z, cz, Ez, rfl, Cz, Oz, hb3⟩
        have B3 := hide (B2.out.trans (hb3.mono B2.out.size))
        have OZ := hide (Oz.out.base B2.out.size)
        clear hb3 Oz
        go_wp2
        go_roundw
        case rel => exact ⟨m, Z, z, cz, by omega, rfl, rfl, Cz, ⟨by rw [Ez.out, vz_length, Ey.out, vz_length]; exact hRH.out.len, by
          rw [hst.out, hx'.out, Ez.out, Ey.out, vz_length, hRH.out.len, nv_vz_mod]
          exact rpow_mul (by rw [nv_vz_mod]; exact rpow_sq hRH.out.val), OZ.out, B3.out⟩⟩
        case measure => first | (simp [intOf]; done) | (simp [intOf]; omega)

theorem less_any (A B : Option Addr) (a b : List Bool) (c d : Nat) (w : World) (ha : a.length ≤ 4096) (hb : b.length ≤ 4096) (hca : Hid (a.length ≤ c ∧ c ≤ maxLen)) (hcb : Hid (b.length ≤ d ∧ d ≤ maxLen)) (hA : Rd w A a) (hB : Rd w B b) :
    Calls Try.prog 73 #[.slice A a.length c, .slice B b.length d] w (Mk (.bool (decide (nv a < nv b))) w) := by
  obtain ⟨z, hz⟩ : ∃ z, z = cmp (nv a) (nv b) := ⟨_, rfl⟩
  have hc := rcmp_any A B a b c d w ha hb hca hcb hA hB
  rw [← hz] at hc
  have e : decide (nv a < nv b) = decide (z < 0) := by
    rw [decide_eq_decide, hz, cmp_lt]; omega
  rw [e]
  have HC := hide hc
  clear hz hc e
  go_enter Try.func73, Try.ntmps73
  go_wp2_with fail
  refine (HC.out).mono ?_
  rintro e w1 ⟨rfl, hb1⟩
  go_wp2
  go_ret
  exact ⟨rfl, hb1⟩

theorem own_lit (w : World) (B : Nat) (x : Bool) (hB : B ≤ w.heap.size) : (w.alloc (.cells #[.bool x] 4)).ownsRow B 4 1 (.slice (some ⟨w.heap.size, 0, none⟩) 1 1) 1 ([x].map Value.bool) := by
  have h := World.ownsRow_lit (base := B) (e := 4) (size := 1) w #[.bool x] 1 hB (by simp [maxLen]) rfl
  exact h

/-- A round of divide: the quotient's row, the remainder. -/
structure RDivR (w : World) (a : List Bool) (D g k : Nat) (r : List Bool) (H : Option Addr) (wr : World) : Prop where
  len : r.length + k ≤ a.length
  rem : nv r = nv a / 2 ^ k % D
  row : RowF wr g a.length (zb (((nv a / 2 ^ k / D : Nat) : Int) * 2 ^ k))
  own : Own w.heap.size wr H r
  bel : Below w.heap.size w wr
theorem nv_cons (x : Bool) (r : List Bool) : nv ([x] ++ r) = 2 * nv r + x.toNat := by
  rw [nv_append]; simp [nv, nf, bt]; omega
/-- Two vectors. -/
def RetQ (P Q : List Bool → Prop) (w : World) (e : Ending) (w' : World) : Prop :=
  ∃ q A c r B d, Hid (P q) ∧ Hid (Q r) ∧ e = .returned (.tuple #[.slice A q.length c, .slice B r.length d]) ∧ Hid (Own w.heap.size w' A q) ∧ Hid (Own w.heap.size w' B r) ∧ Below w.heap.size w w'

set_option maxHeartbeats 2000000 in
theorem divide_any (A B : Option Addr) (a b : List Bool) (c d : Nat) (w : World) (ha : a.length ≤ 4000) (hb : b.length ≤ 4000) (hcb : Hid (b.length ≤ d ∧ d ≤ maxLen)) (hA : Rd w A a) (hB : Rd w B b) (h0 : 0 < nv b) :
    Calls Try.prog 64 #[.slice A a.length c, .slice B b.length d] w (RetQ (fun q => nv q = nv a / nv b ∧ q.length = a.length) (fun r => nv r = nv a % nv b ∧ r.length ≤ a.length) w) := by
  have HA := hide hA
  have HB := hide hB
  have H0 := hide h0
  clear hA hB h0
  go_enter Try.func64, Try.ntmps64
  go_wp2_with (at_make; refine wpList_make_bv _ rfl _ _ rfl _ _ a.length rfl rfl rfl rfl (by omega) ?_; intro w1 hr1 hb1 hz1; have HR := hide hr1; have B1 := hide hb1; clear hr1 hb1 hz1)
  go_loopw [7, 8] (fun v i wr => ∃ (k : Nat) (H : Option Addr) (r : List Bool) (ch : Nat), k ≤ a.length ∧ i = .int .i64 ((k : Int) - 1) ∧ v = .slice H r.length ch ∧ Hid (r.length ≤ ch ∧ ch ≤ maxLen) ∧ RDivR w a (nv b) w.heap.size k r H wr) (fun _ i _ => (intOf i + 1).toNat)
  case atStart =>
    refine ⟨a.length, none, [], 0, Nat.le_refl _, rfl, rfl, hide ⟨Nat.le_refl _, by simp [maxLen]⟩, ⟨by simp, ?_, ?_, fun h => absurd h (by simp), B1.out⟩⟩
    · rw [full_zero]; simp [nv, nf]
    · rw [full_zero]; simp; exact HR.out.congr fun i _ => (zb_zero i).symm
  case round =>
    obtain ⟨k, H, r, ch, hk, rfl, rfl, hch, hR⟩ := hrel
    have hRH := hide hR
    clear hR
    rcases Nat.eq_zero_or_pos k with h0 | h0
    · subst h0
      have hrow := hRH.out.row
      have hrem := hRH.out.rem
      rw [Nat.pow_zero, Nat.div_one] at hrem
      rw [Nat.pow_zero, Nat.div_one, Int.pow_zero, Int.mul_one] at hrow
      have HRow := hide hrow
      have HRem := hide hrem
      clear hrow hrem
      go_wp2
      go_ret2
      have hq : nv (vz a.length ((nv a / nv b : Nat) : Int)) = nv a / nv b := nv_vz_nat (Nat.lt_of_le_of_lt (Nat.div_le_self _ _) (nv_lt a))
      have hl := vz_length a.length ((nv a / nv b : Nat) : Int)
      refine ⟨vz a.length ((nv a / nv b : Nat) : Int), some ⟨w.heap.size, 0, none⟩, a.length, r, H, ch, hide ⟨hq, hl⟩, hide ⟨HRem.out, by have := hRH.out.len; omega⟩, ?_, ?_, hide hRH.out.own, hRH.out.bel⟩
      · rw [hl]; rfl
      · exact hide fun _ => ⟨_, rfl, Nat.le_refl _, by rw [hl]; exact HRow.out.congr fun i hi => (bt_bl_lt hi).symm⟩
    · obtain ⟨m, rfl⟩ : ∃ m, k = m + 1 := ⟨k - 1, by omega⟩
      rw [show (((m + 1 : Nat)) : Int) - 1 = m by omega]
      have hma : m < a.length := by omega
      have hr4 : r.length ≤ 4000 := by have := hRH.out.len; omega
      have hst := hide (half_step a m)
      obtain ⟨ad, rfl, hlt1, hc⟩ := (HA.out.below hRH.out.bel).at_ hma
      have hgw : w.heap.size < wr.heap.size := hRH.out.row.lt
      go_wp2_with (at_builtin; refine wpList_append_bv _ rfl _ _ rfl wr.heap.size _ 1 [bt a m] rfl (own_lit wr wr.heap.size _ (Nat.le_refl _)) H _ ch r rfl rfl (hRH.out.own.rd.below ((Below.refl _ _).alloc (Nat.le_refl _) _)) (by simp; omega) (by simp) ?_; intro v' w2 hown hb2; obtain ⟨y, hy⟩ : ∃ y, y = [bt a m] ++ r := ⟨_, rfl⟩; rw [← hy] at hown; obtain ⟨Y, cy, rfl, h1, h2, h3⟩ := own_open hown; have OY := hide h3; have HB2 := hide (((Below.refl _ _).alloc (Nat.le_refl _) _).trans hb2); have HY := hide hy; have CY := hide (And.intro h1 h2); clear hown hb2 h1 h2 h3 hy)
      have hy4 : y.length ≤ 4096 := by rw [HY.out]; simp; omega
      have hyl : Hid (y.length = r.length + 1) := hide (by rw [HY.out, List.length_append, List.length_singleton]; omega)
      have hyv : Hid (nv y = 2 * (nv a / 2 ^ (m + 1) % nv b) + (bt a m).toNat) := hide (by rw [HY.out, nv_cons, hRH.out.rem])
      have B2 := hide (hRH.out.bel.trans (HB2.out.mono hRH.out.bel.size))
      have HBr := hide (HB.out.below B2.out)
      have hrow2 := hide (hRH.out.row.kept HB2.out)
      refine (less_any Y B y b cy d w2 hy4 (by omega) CY hcb OY.out.rd HBr.out).mono ?_
      rintro e w3 ⟨rfl, hb3⟩
      have B3 := hide (B2.out.trans (hb3.mono B2.out.size))
      have hrow3 := hide (hrow2.out.kept hb3)
      have OY3 := hide (OY.out.kept hb3)
      have HB3 := hide (HBr.out.below hb3)
      have hD := hide H0.out
      have hs3 : w2.heap.size ≤ w3.heap.size := hb3.size
      clear hb3
      by_cases hge : nv y < nv b
      · have hd : decide (nv y < nv b) = true := by simpa using hge
        have HGE := hide hge
        clear hge
        go_wp2
        go_roundw
        case rel =>
          have dn := div_no (X := nv a / 2 ^ (m + 1)) (b := (bt a m).toNat) hD.out (by rw [← hyv.out]; exact HGE.out)
          refine ⟨m, Y, y, cy, by omega, rfl, rfl, CY, ⟨?_, ?_, ?_, OY3.out.base (by omega), B3.out⟩⟩
          · have := hRH.out.len; have := hyl.out; omega
          · rw [hyv.out, hst.out, dn.1]
          · rw [hst.out, dn.2]
            refine hrow3.out.congr fun j hj => ?_
            rw [Int.pow_succ]
            congr 1
            simp
            grind
        case measure => first | (simp [intOf]; done) | (simp [intOf]; omega)
      · have hd : decide (nv y < nv b) = false := by simpa using hge
        have HGE := hide hge
        clear hge
        go_wp2_with fail
        refine (minus_any Y B y b cy d w3 hy4 (by omega) OY3.out.rd HB3.out (by have := HGE.out; omega)).mono ?_
        rintro e w4 ⟨z, Z, cz, Ez, rfl, Cz, Oz, hb4⟩
        have B4 := hide (B3.out.trans (hb4.mono B3.out.size))
        have hrow4 := hrow3.out.kept hb4
        have hcq := hrow4.cell hma
        have hfq := hrow4.free m
        have HROW4 := hide hrow4
        have hs4 : w3.heap.size ≤ w4.heap.size := hb4.size
        have hs2 : wr.heap.size ≤ w2.heap.size := HB2.out.size
        clear hb4 hrow4
        go_wp2
        go_roundw
        case rel =>
          have dy := div_yes (X := nv a / 2 ^ (m + 1)) (b := (bt a m).toNat) hD.out (by rcases toNat_01 (bt a m) with h | h <;> omega) (by rw [← hyv.out]; have := HGE.out; omega)
          refine ⟨m, Z, z, cz, by omega, rfl, rfl, Cz, ⟨?_, ?_, ?_, ?_, B4.out.setCell (by simp) _⟩⟩
          · have := hRH.out.len; have := hyl.out; have := Ez.out.2; omega
          · rw [Ez.out.1, hyv.out, hst.out, dy.1]
          · rw [hst.out, dy.2]
            refine (HROW4.out.set_ m true).congr fun j hj => ?_
            have q := quo_bit ((nv a / 2 ^ (m + 1) / nv b : Nat) : Int) m j true
            have e : ((2 * (nv a / 2 ^ (m + 1) / nv b) + 1 : Nat) : Int) = 2 * ((nv a / 2 ^ (m + 1) / nv b : Nat) : Int) + (true.toNat : Nat) := by simp
            rw [e, q]
          · intro hn
            obtain ⟨g3, e, hB3, hr3⟩ := Oz.out hn
            exact ⟨g3, e, by omega, hr3.far (by simp; omega) _⟩
        case measure => first | (simp [intOf]; done) | (simp [intOf]; omega)
end Go.Proofs.Ytkjiaflmaniplaa
