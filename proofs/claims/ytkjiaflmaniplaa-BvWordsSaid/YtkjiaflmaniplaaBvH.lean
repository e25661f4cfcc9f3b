/-
  The contracts of package bv's Mul, Pow and Contains.
-/
import Derived.Test.YtkjiaflmaniplaaBvG
namespace Go.Proofs.Ytkjiaflmaniplaa
open Go.RowKit
set_option linter.unusedSimpArgs false
set_option linter.unusedVariables false

theorem nf_Mid (F y : Nat → Bool) (k m : Nat) : nf (Mid k m F y) (k + m) = nf F k + 2 ^ k * nf (sb false (fun i => F (k + i)) y) m := by
  rw [nf_Mid_val]
  have h1 : nf (Mid k m F y) k = nf F k := nf_congr fun i hi => by unfold Mid; rw [if_pos hi]
  have h2 : nf (fun i => Mid k m F y (k + i)) m = nf (sb false (fun i => F (k + i)) y) m := nf_congr fun i hi => by
    unfold Mid
    rw [if_neg (by omega), if_pos (by omega), show k + i - k = i by omega]
  rw [h1, h2]
theorem mul_step (P a : Int) (l : List Bool) (k m n : Nat) (hn : k + m = n) (ha : (nv l : Int) = a) (j : Nat) (hj : j < n) : Mid k m (zb P) (bt l) j = zb (P + 2 ^ k * a) j := by
  subst hn; subst ha
  refine nf_inj (n := k + m) ?_ j hj
  have h1 := nf_Mid (zb P) (bt l) k m
  have h2 := nf_zb (P + 2 ^ k * nv l) (k + m)
  have h3 := nf_sb false (fun i => zb P (k + i)) (bt l) m
  have h4 := nf_Mid_val (zb P) k m
  have h5 := nf_zb P (k + m)
  have h6 := nf_bt_mod l m
  have hlt := nf_lt (Mid k m (zb P) (bt l)) (k + m)
  simp only [Bool.toNat_false, Nat.add_zero] at h3
  rw [h6] at h3
  generalize nf (Mid k m (zb P) (bt l)) (k + m) = N at *
  generalize nf (sb false (fun i => zb P (k + i)) (bt l)) m = s at *
  generalize (cy false (fun i => zb P (k + i)) (bt l) m).toNat = c at *
  generalize nf (zb P) k = p0 at *
  generalize nf (fun i => zb P (k + i)) m = p1 at *
  generalize nf (zb P) (k + m) = p at *
  have e1 : (N : Int) = P + 2 ^ k * (nv l : Int) - 2 ^ (k + m) * ((c : Int) + P / 2 ^ (k + m) + (nv l / 2 ^ m : Nat)) := by
    have d := Nat.mod_add_div (nv l) (2 ^ m)
    generalize nv l % 2 ^ m = r at *
    generalize nv l / 2 ^ m = q at *
    have d1 := Int.emod_add_mul_ediv P (2 ^ (k + m))
    rw [← h5] at d1
    have h1' : (N : Int) = p0 + 2 ^ k * s := by rw [h1]; simp
    have h3' : (s : Int) + 2 ^ m * c = p1 + r := by have := congrArg (Nat.cast (R := Int)) h3; simpa using this
    have h4' : (p : Int) = p0 + 2 ^ k * p1 := by rw [h4]; simp
    have d' : (r : Int) + 2 ^ m * q = nv l := by have := congrArg (Nat.cast (R := Int)) d; simpa using this
    have e : (2 : Int) ^ (k + m) = 2 ^ k * 2 ^ m := Int.pow_add ..
    rw [e] at d1 ⊢
    generalize (2 : Int) ^ k = K at *
    generalize (2 : Int) ^ m = M at *
    generalize P / (K * M) = t at *
    grind
  have e2 : (N : Int) % 2 ^ (k + m) = (P + 2 ^ k * (nv l : Int)) % 2 ^ (k + m) := by
    rw [e1, Int.sub_emod, Int.mul_emod_right, Int.sub_zero, Int.emod_emod]
  have e3 : (N : Int) % 2 ^ (k + m) = N := Int.emod_eq_of_lt (by omega) (by rw [← two_cast]; omega)
  omega

/-- A round of Mul. -/
structure MulR (w : World) (n : Nat) (P : Int) (wr : World) : Prop where
  row : RowF wr w.heap.size n (zb P)
  bel : Below w.heap.size w wr
theorem zb_zero (i : Nat) : zb 0 i = false := by unfold zb; simp

set_option maxHeartbeats 1000000 in
theorem mul_any (A B : Option Addr) (a b : List Bool) (c d : Nat) (w : World) (ha : a.length ≤ 4096) (hb : b.length ≤ 4096) (hA : Rd w A a) (hB : Rd w B b) :
    Calls Try.prog 19 #[.slice A a.length c, .slice B b.length d] w (MkV (vz a.length ((nv a : Int) * nv b)) w) := by
  have HA := hide hA
  have HB := hide hB
  clear hA hB
  go_enter Try.func19, Try.ntmps19
  go_wp2_with (first
    | (at_make; refine wpList_make_bv _ rfl _ _ rfl _ _ a.length rfl rfl rfl rfl ha ?_; intro w1 hr1 hb1 hz1))
  all_goals
    go_loopw [15] (fun i wr => ∃ k : Nat, k ≤ min a.length b.length ∧ i = .int .i64 k ∧ MulR w a.length ((nv a : Int) * nf (bt b) k) wr) (fun i _ => min a.length b.length - (intOf i).toNat)
    case atStart => exact ⟨0, Nat.zero_le _, rfl, ⟨hr1.congr fun j _ => by simp [nf, zb_zero], hb1⟩⟩
    case round =>
      obtain ⟨k, hk, rfl, hR⟩ := hrel
      have hRH := hide hR
      clear hr1 hb1 hR
      by_cases hlt : k < min a.length b.length
      · have hka : k < a.length := by omega
        have hkb : k < b.length := by omega
        have hRdB := HB.out.below hRH.out.bel
        obtain ⟨ad, rfl, hlt1, hc⟩ := hRdB.at_ hkb
        clear hRdB
        have hs := hide (nf_succ (bt b) k)
        cases hx : bt b k
        · go_wp2
          go_roundw
          case rel => exact ⟨k + 1, by omega, by go_num, ⟨by rw [hs.out, hx]; simpa using hRH.out.row, hRH.out.bel⟩⟩
          case measure => simp [intOf]; omega
        · have hne : ¬ a.length = k := by omega
          go_wp2_with fail
          refine (addTo_any w.heap.size a.length k (a.length - k) (a.length - k) _ A a c wr (by omega) (by omega) ha hRH.out.row ?_).mono ?_
          · intro hn
            obtain ⟨ad2, e, hl, hc2⟩ := HA.out hn
            exact ⟨ad2, e, hl, fun i hi => (hRH.out.bel.cell (p := ad2.add i) (by rw [block_of_add]; exact hl)).trans (hc2 i hi)⟩
          rintro e w2 ⟨rfl, hr2, hb2⟩
          have hr3 : RowF w2 w.heap.size a.length (zb ((nv a : Int) * nf (bt b) (k + 1))) := hr2.congr fun j hj => by
            rw [mul_step _ _ a k (a.length - k) a.length (by omega) rfl j hj, hs.out, hx]
            congr 1
            simp only [Bool.toNat_true, Nat.mul_one, Int.natCast_add, Int.mul_add, two_cast]
            rw [Int.mul_comm (2 ^ k)]
          have hR3 := hide hr3
          clear hr2 hr3
          go_wp2
          go_roundw
          case rel => exact ⟨k + 1, by omega, by go_num, ⟨hR3.out, hRH.out.bel.trans hb2⟩⟩
          case measure => simp [intOf]; omega
      · go_wp2
        go_ret
        have e : k = min a.length b.length := by omega
        subst e
        refine MkV.mk_row hRH.out.row ?_ (Nat.le_refl _) hRH.out.bel (Nat.le_refl _) (max_4096 ha)
        show vz _ _ = vz _ _
        rcases Nat.le_total b.length a.length with h | h
        · rw [Nat.min_eq_right h, nf_bt (Nat.le_refl _)]
        · rw [Nat.min_eq_left h, nf_bt_mod]
          apply vz_eq
          rw [Int.natCast_emod, two_cast, Int.mul_emod _ ((nv b : Int) % _), Int.emod_emod, ← Int.mul_emod]

/-- Powers by squaring, as far as the bits of the exponent go. -/
theorem pow_even {P : Int} {a n k : Nat} (w : Nat) (h : P % 2 ^ w = (a : Int) ^ n % 2 ^ w) : P % 2 ^ w = (a : Int) ^ (n + 2 ^ k * 0) % 2 ^ w := by simpa using h
theorem pow_odd {P S : Int} {a n k : Nat} (w : Nat) (h : P % 2 ^ w = (a : Int) ^ n % 2 ^ w) (g : S % 2 ^ w = (a : Int) ^ (2 ^ k) % 2 ^ w) : (P * S) % 2 ^ w = (a : Int) ^ (n + 2 ^ k * 1) % 2 ^ w := by
  rw [Nat.mul_one, Int.pow_add, Int.mul_emod, h, g, ← Int.mul_emod]
theorem pow_sq {S : Int} {a k : Nat} (w : Nat) (g : S % 2 ^ w = (a : Int) ^ (2 ^ k) % 2 ^ w) : (S * S) % 2 ^ w = (a : Int) ^ (2 ^ (k + 1)) % 2 ^ w := by
  rw [Int.mul_emod, g, ← Int.mul_emod, ← Int.pow_add, Nat.pow_succ, Nat.mul_two]
theorem pow_sq2 {S : Int} {a k : Nat} (w : Nat) (hk : w ≤ k) (g : S % 2 ^ w = (a : Int) ^ (2 ^ k) % 2 ^ w) : S % 2 ^ w = (a : Int) ^ (2 ^ (k + 1)) % 2 ^ w := by
  rw [g, pow_stays _ w k hk, pow_stays _ w (k + 1) (by omega)]

/-- A round of Pow: the power so far, the square. -/
structure PowR (w : World) (n a : Nat) (b : List Bool) (k : Nat) (p s : List Bool) (A S : Option Addr) (wr : World) : Prop where
  lp : p.length = n
  ls : s.length = n
  pw : (nv p : Int) % 2 ^ n = (a : Int) ^ (nf (bt b) k) % 2 ^ n
  sq : (nv s : Int) % 2 ^ n = (a : Int) ^ (2 ^ k) % 2 ^ n
  op : Own w.heap.size wr A p
  rs : Rd wr S s
  bel : Below w.heap.size w wr
theorem nv_vz_mod (w : Nat) (z : Int) : (nv (vz w z) : Int) % 2 ^ w = z % 2 ^ w := by rw [nv_vz, Int.emod_emod]

set_option maxHeartbeats 1000000 in
theorem pow_any (A B : Option Addr) (a b : List Bool) (c d : Nat) (w : World) (ha : a.length ≤ 4096) (hb : b.length ≤ 4096) (hA : Rd w A a) (hB : Rd w B b) :
    Calls Try.prog 46 #[.slice A a.length c, .slice B b.length d] w (MkV (vz a.length ((nv a : Int) ^ nv b)) w) := by
  have HA := hide hA
  have HB := hide hB
  clear hA hB
  go_enter Try.func46, Try.ntmps46
  go_wp2_with (go_at_call 70; (with_reducible refine (one_any _ _ ha).mono ?_); rintro e w1 ⟨A1, c1, rfl, h1, h2, h3, hb1⟩; have H1 := hide h1; have H2 := hide h2; have H3 := hide h3; clear h1 h2 h3)
  go_loopw [5, 6, 14] (fun x y i wr => ∃ (k : Nat) (p s : List Bool) (P S : Option Addr) (cp cs : Nat), k ≤ b.length ∧ x = .slice P p.length cp ∧ p.length ≤ cp ∧ cp ≤ maxLen ∧ y = .slice S s.length cs ∧ i = .int .i64 k ∧ PowR w a.length (nv a) b k p s P S wr) (fun _ _ i _ => b.length - (intOf i).toNat)
  case atStart =>
    exact ⟨0, _, a, A1, A, c1, c, Nat.zero_le _, rfl, H1.out, H2.out, rfl, rfl, ⟨vz_length _ _, rfl, by rw [nv_vz_mod]; simp [nf], by rw [Nat.pow_zero, Int.pow_one], H3.out, HA.out.below hb1, hb1⟩⟩
  case round =>
    obtain ⟨k, p, s, P, S, cp, cs, hk, rfl, hc1, hc2, rfl, rfl, hR⟩ := hrel
    have hRH := hide hR
    have hlp := hide hR.lp
    have hls := hide hR.ls
    have HC1 := hide hc1
    have HC2 := hide hc2
    clear hR hb1 hc1 hc2
    have hp4 : p.length ≤ 4096 := by have := hlp.out; omega
    have hs4 : s.length ≤ 4096 := by have := hls.out; omega
    by_cases hlt : k < b.length
    · have hRdB := HB.out.below hRH.out.bel
      obtain ⟨ad, rfl, hlt1, hc⟩ := hRdB.at_ hlt
      clear hRdB
      have hst := hide (nf_succ (bt b) k)
      cases hx : bt b k <;> by_cases hka : k < a.length
      · go_wp2_with fail
        refine (mul_any S S s s cs cs wr hs4 hs4 hRH.out.rs hRH.out.rs).mono ?_
        rintro e w2 ⟨S2, cs2, rfl, g1, g2, g3, gb⟩
        have R := hide (PowR.mk (w := w) (n := a.length) (a := nv a) (b := b) (k := k + 1) (p := p) (s := vz s.length ((nv s : Int) * nv s)) (A := P) (S := S2) (wr := w2) hlp.out (by rw [vz_length]; exact hls.out)
          (by rw [hst.out, hx]; exact pow_even a.length hRH.out.pw) (by rw [hls.out, nv_vz_mod]; exact pow_sq _ hRH.out.sq) (hRH.out.op.kept gb) g3.rd (hRH.out.bel.trans (gb.mono hRH.out.bel.size)))
        clear g1 g2 g3 gb
        go_wp2
        go_roundw
        case rel => exact ⟨k + 1, _, _, P, S2, cp, cs2, by omega, rfl, HC1.out, HC2.out, rfl, by go_num, R.out⟩
        case measure => simp [intOf]; omega
      · have R := hide (PowR.mk (w := w) (n := a.length) (a := nv a) (b := b) (k := k + 1) (p := p) (s := s) (A := P) (S := S) (wr := wr) hlp.out hls.out
          (by rw [hst.out, hx]; exact pow_even a.length hRH.out.pw) (pow_sq2 _ (by omega) hRH.out.sq) hRH.out.op hRH.out.rs hRH.out.bel)
        go_wp2
        go_roundw
        case rel => exact ⟨k + 1, _, _, P, S, cp, cs, by omega, rfl, HC1.out, HC2.out, rfl, by go_num, R.out⟩
        case measure => simp [intOf]; omega
      · go_wp2_with fail
        refine (mul_any P S p s cp cs wr hp4 hs4 hRH.out.op.rd hRH.out.rs).mono ?_
        rintro e w1 ⟨P2, cp2, rfl, f1, f2, f3, fb⟩
        have F1 := hide f1
        have F2 := hide f2
        have F3 := hide f3
        have FB := hide fb
        have hsr := hide (hRH.out.rs.below fb)
        clear f1 f2 f3 fb
        go_wp2_with fail
        refine (mul_any S S s s cs cs w1 hs4 hs4 hsr.out hsr.out).mono ?_
        rintro e w2 ⟨S2, cs2, rfl, g1, g2, g3, gb⟩
        have R := hide (PowR.mk (w := w) (n := a.length) (a := nv a) (b := b) (k := k + 1) (p := vz p.length ((nv p : Int) * nv s)) (s := vz s.length ((nv s : Int) * nv s)) (A := P2) (S := S2) (wr := w2) (by rw [vz_length]; exact hlp.out) (by rw [vz_length]; exact hls.out)
          (by rw [hst.out, hx, hlp.out, nv_vz_mod]; exact pow_odd a.length hRH.out.pw hRH.out.sq) (by rw [hls.out, nv_vz_mod]; exact pow_sq _ hRH.out.sq) ((F3.out.base hRH.out.bel.size).kept gb) g3.rd ((hRH.out.bel.trans (FB.out.mono hRH.out.bel.size)).trans (gb.mono (Nat.le_trans hRH.out.bel.size FB.out.size))))
        clear g1 g2 g3 gb
        go_wp2
        go_roundw
        case rel => exact ⟨k + 1, _, _, P2, S2, cp2, cs2, by omega, rfl, F1.out, F2.out, rfl, by go_num, R.out⟩
        case measure => simp [intOf]; omega
      · go_wp2_with fail
        refine (mul_any P S p s cp cs wr hp4 hs4 hRH.out.op.rd hRH.out.rs).mono ?_
        rintro e w1 ⟨P2, cp2, rfl, f1, f2, f3, fb⟩
        have F1 := hide f1
        have F2 := hide f2
        have R := hide (PowR.mk (w := w) (n := a.length) (a := nv a) (b := b) (k := k + 1) (p := vz p.length ((nv p : Int) * nv s)) (s := s) (A := P2) (S := S) (wr := w1) (by rw [vz_length]; exact hlp.out) hls.out
          (by rw [hst.out, hx, hlp.out, nv_vz_mod]; exact pow_odd a.length hRH.out.pw hRH.out.sq) (pow_sq2 _ (by omega) hRH.out.sq) (f3.base hRH.out.bel.size) (hRH.out.rs.below fb) (hRH.out.bel.trans (fb.mono hRH.out.bel.size)))
        clear f1 f2 f3 fb
        go_wp2
        go_roundw
        case rel => exact ⟨k + 1, _, _, P2, S, cp2, cs, by omega, rfl, F1.out, F2.out, rfl, by go_num, R.out⟩
        case measure => simp [intOf]; omega
    · go_wp2
      go_ret
      have e : k = b.length := by omega
      subst e
      have e2 : p = vz a.length ((nv a : Int) ^ nv b) := eq_vz hlp.out (by rw [hRH.out.pw, nf_bt (Nat.le_refl _)])
      have h3 := hRH.out.op
      have h1 := HC1.out
      refine ⟨P, cp, ?_, ?_, HC2.out, ?_, hRH.out.bel⟩
      · rw [← e2]; rfl
      · rw [← e2]; exact h1
      · rw [← e2]; exact h3

/-- Contains true: the value is not 0. -/
theorem nf_pos {f : Nat → Bool} {n i : Nat} (hi : i < n) (h : f i = true) : 0 < nf f n := by
  induction n with
  | zero => omega
  | succ n ih =>
    rw [nf_succ]
    by_cases e : i = n
    · subst e; rw [h]
      have : 0 < 2 ^ i := Nat.pow_pos (by decide)
      simp; omega
    · have := ih (by omega); omega
theorem nf_none {f : Nat → Bool} {n : Nat} (h : ∀ i, i < n → f i = false) : nf f n = 0 := by
  induction n with
  | zero => rfl
  | succ n ih => rw [nf_succ, ih fun i hi => h i (by omega), h n (by omega)]; simp

set_option maxHeartbeats 1000000 in
theorem index_any (B : Option Addr) (b : List Bool) (d : Nat) (w : World) (hb : b.length ≤ 4096) (hB : Rd w B b) :
    Calls Try.prog 74 #[.slice B b.length d, .bool true] w fun e w' => (∃ i : Int, e = .returned (.int .i64 i) ∧ (0 ≤ i ↔ 0 < nv b)) ∧ w = w' := by
  have HB := hide hB
  clear hB
  show Calls _ _ _ _ (fun e w' => (fun (e : Ending) => ∃ i : Int, e = .returned (.int .i64 i) ∧ (0 ≤ i ↔ 0 < nv b)) e ∧ w = w')
  generalize hP : (fun (e : Ending) => ∃ i : Int, e = .returned (.int .i64 i) ∧ (0 ≤ i ↔ 0 < nv b)) = PP
  have HP := hide hP
  clear hP
  go_enter Try.func74, Try.ntmps74
  go_wp2
  go_loop [8] (fun i => ∃ k : Nat, k ≤ b.length ∧ i = .int .i64 k ∧ Hid (∀ j, j < k → bt b j = false)) (fun i => b.length - (intOf i).toNat)
  case atStart => exact ⟨0, Nat.zero_le _, rfl, hide fun j hj => by omega⟩
  case round =>
    obtain ⟨k, hk, rfl, hno⟩ := hrel
    by_cases hlt : k < b.length
    · obtain ⟨ad, rfl, hlt1, hc⟩ := HB.out.at_ hlt
      cases hx : bt b k
      · rw [hx] at hc
        have hx' := hide hx
        clear hx
        go_wp2
        go_round
        case rel => exact ⟨k + 1, by omega, by go_num, hide fun j hj => by
          by_cases e : j = k
          · subst e; exact hx'.out
          · exact hno.out j (by omega)⟩
        case measure => simp [intOf]; omega
      · rw [hx] at hc
        have hx' := hide hx
        clear hx
        go_wp2
        go_ret
        refine ⟨?_, rfl⟩
        rw [← HP.out]
        exact ⟨k, rfl, by have := nf_pos hlt hx'.out; constructor <;> intro _ <;> first | exact this | omega⟩
    · go_wp2
      go_ret
      refine ⟨?_, rfl⟩
      rw [← HP.out]
      refine ⟨-1, rfl, ?_⟩
      have : nv b = 0 := nf_none fun i hi => hno.out i (by omega)
      constructor <;> intro _ <;> omega

theorem has_any (B : Option Addr) (b : List Bool) (d : Nat) (w : World) (hb : b.length ≤ 4096) (hB : Rd w B b) :
    Calls Try.prog 65 #[.slice B b.length d, .bool true] w fun e w' => e = .returned (.bool (decide (0 < nv b))) ∧ w = w' := by
  go_enter Try.func65, Try.ntmps65
  go_wp2_with fail
  refine (index_any _ _ _ _ hb hB).mono ?_
  rintro e w' ⟨⟨i, rfl, hi⟩, rfl⟩
  have HI := hide hi
  clear hi
  go_wp2
  go_ret
  exact ⟨ret_bool (by rw [decide_eq_decide]; exact HI.out), rfl⟩
end Go.Proofs.Ytkjiaflmaniplaa
