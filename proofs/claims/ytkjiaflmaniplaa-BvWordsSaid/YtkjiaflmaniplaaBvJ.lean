/-
  The contract of package bv's SDivMod.
-/
import Derived.Test.YtkjiaflmaniplaaBvI
namespace Go.Proofs.Ytkjiaflmaniplaa
open Go.RowKit
set_option linter.unusedSimpArgs false
set_option linter.unusedVariables false

theorem mg_zero (b : List Bool) : mg b = 0 ↔ nv b = 0 := by
  have h := nv_lt b
  have k := two_cast b.length
  unfold mg sv
  split
  · rename_i hn
    have := (ng_iff b).1 hn
    have h2 : 0 < 2 ^ (b.length - 1) := Nat.pow_pos (by decide)
    omega
  · omega
theorem sv_mg (a : List Bool) : sv a = if ng a then -(mg a : Int) else mg a := by
  cases h : ng a
  · have := sv_nn h; unfold mg; simp; omega
  · have := sv_neg h; unfold mg; simp; omega
theorem sdiv_pp {a b : List Bool} (h : ng a = false) (k : ng b = false) : ((mg a / mg b : Nat) : Int) = (sv a).tdiv (sv b) ∧ ((mg a % mg b : Nat) : Int) = (sv a).tmod (sv b) := by
  rw [sv_mg a, sv_mg b, h, k]
  have e : (↑(mg a) : Int).tmod ↑(mg b) = ↑(mg a) % ↑(mg b) := Int.tmod_eq_emod_of_nonneg (by omega)
  simp [e]
theorem sdiv_pn {a b : List Bool} (h : ng a = false) (k : ng b = true) : -((mg a / mg b : Nat) : Int) = (sv a).tdiv (sv b) ∧ ((mg a % mg b : Nat) : Int) = (sv a).tmod (sv b) := by
  rw [sv_mg a, sv_mg b, h, k]
  have e : (↑(mg a) : Int).tmod ↑(mg b) = ↑(mg a) % ↑(mg b) := Int.tmod_eq_emod_of_nonneg (by omega)
  simp [e]
theorem sdiv_np {a b : List Bool} (h : ng a = true) (k : ng b = false) : -((mg a / mg b : Nat) : Int) = (sv a).tdiv (sv b) ∧ -((mg a % mg b : Nat) : Int) = (sv a).tmod (sv b) := by
  rw [sv_mg a, sv_mg b, h, k]
  have e : (↑(mg a) : Int).tmod ↑(mg b) = ↑(mg a) % ↑(mg b) := Int.tmod_eq_emod_of_nonneg (by omega)
  simp [e]
theorem sdiv_nn {a b : List Bool} (h : ng a = true) (k : ng b = true) : ((mg a / mg b : Nat) : Int) = (sv a).tdiv (sv b) ∧ -((mg a % mg b : Nat) : Int) = (sv a).tmod (sv b) := by
  rw [sv_mg a, sv_mg b, h, k]
  have e : (↑(mg a) : Int).tmod ↑(mg b) = ↑(mg a) % ↑(mg b) := Int.tmod_eq_emod_of_nonneg (by omega)
  simp [e]
theorem mag_list (a : List Bool) : ∃ m, m = vz a.length (mg a) ∧ m.length = a.length ∧ nv m = mg a := ⟨_, rfl, vz_length _ _, nv_vz_nat (mg_lt' a)⟩

theorem MkD.mk2 {q r q' r' : List Bool} {w w' : World} {A B : Option Addr} {c d : Nat} (hA : Own w.heap.size w' A q) (hB : Own w.heap.size w' B r) (h1 : q.length ≤ c) (h2 : c ≤ maxLen) (h3 : r.length ≤ d) (h4 : d ≤ maxLen) (hb : Below w.heap.size w w') (eq : q = q') (er : r = r') :
    MkD q' r' w (.returned (.tuple #[.slice A q.length c, .slice B r.length d, .int .i64 0])) w' := by
  subst eq; subst er
  exact ⟨A, c, B, d, rfl, h1, h2, h3, h4, hA, hB, hb⟩

theorem sdiv_zero (A B : Option Addr) (a b : List Bool) (c d : Nat) (w : World) (ha : a.length ≤ 4096) (hb : b.length ≤ 4096) (hA : Rd w A a) (hB : Rd w B b) (h0 : nv b = 0) :
    Calls Try.prog 33 #[.slice A a.length c, .slice B b.length d] w fun e w' => e = .returned (.tuple #[.slice none 0 0, .slice none 0 0, .int .i64 7]) ∧ Below w.heap.size w w' := by
  have HA := hide hA
  have HB := hide hB
  have H0 := hide h0
  clear hA hB h0
  go_enter Try.func33, Try.ntmps33
  go_wp2_with fail
  refine (mag_any A a c w ha HA.out).mono ?_
  rintro e w1 ⟨A2, c2, rfl, hr1, hb1⟩
  obtain ⟨ma, ea, la, va⟩ := mag_list a
  rw [← ea] at hr1 ⊢
  have R1 := hide hr1
  have HB2 := hide (HB.out.below hb1)
  have LA := hide la
  have B1 := hide hb1
  have hma : ma.length ≤ 4096 := by omega
  clear ea la va hr1 hb1
  go_wp2_with fail
  refine (mag_any B b d w1 hb HB2.out).mono ?_
  rintro e w2 ⟨A3, c3, rfl, hr2, hb2⟩
  obtain ⟨mb, eb, lb, vb⟩ := mag_list b
  rw [← eb] at hr2 ⊢
  have hmb : mb.length ≤ 4096 := by omega
  have hz := hide (div_zero A2 A3 ma mb c2 c3 w2 hma hmb hr2 (by rw [vb]; exact (mg_zero b).2 H0.out))
  have B2 := hide hb2
  clear eb lb vb hr2 hb2
  go_wp2_with fail
  refine (hz.out).mono ?_
  rintro e w' ⟨rfl, rfl⟩
  go_wp2
  go_ret3
  exact ⟨rfl, B1.out.trans (B2.out.mono B1.out.size)⟩

set_option maxHeartbeats 1000000 in
theorem sdiv_any (A B : Option Addr) (a b : List Bool) (c d : Nat) (w : World) (ha : a.length ≤ 4096) (hb : b.length ≤ 4096) (hA : Rd w A a) (hB : Rd w B b) (h0 : 0 < nv b) :
    Calls Try.prog 33 #[.slice A a.length c, .slice B b.length d] w (MkD (vz a.length ((sv a).tdiv (sv b))) (vz a.length ((sv a).tmod (sv b))) w) := by
  have HA := hide hA
  have HB := hide hB
  have H0 := hide h0
  clear hA hB h0
  go_enter Try.func33, Try.ntmps33
  go_wp2_with fail
  refine (mag_any A a c w ha HA.out).mono ?_
  rintro e w1 ⟨A2, c2, rfl, hr1, hb1⟩
  obtain ⟨ma, ea, la, va⟩ := mag_list a
  rw [← ea] at hr1 ⊢
  have R1 := hide hr1
  have HB2 := hide (HB.out.below hb1)
  have LA := hide la
  have VA := hide va
  have B1 := hide hb1
  have hma : ma.length ≤ 4096 := by omega
  clear ea la va hr1 hb1
  go_wp2_with fail
  refine (mag_any B b d w1 hb HB2.out).mono ?_
  rintro e w2 ⟨A3, c3, rfl, hr2, hb2⟩
  obtain ⟨mb, eb, lb, vb⟩ := mag_list b
  rw [← eb] at hr2 ⊢
  have hmb : mb.length ≤ 4096 := by omega
  have hz := hide (div_any A2 A3 ma mb c2 c3 w2 hma hmb (R1.out.below hb2) hr2 (by rw [vb]; exact Nat.pos_of_ne_zero fun h => by have := (mg_zero b).1 h; have := H0.out; omega))
  have VB := hide vb
  have hW2 := hide (B1.out.trans (hb2.mono B1.out.size))
  clear eb lb vb hr2 hb2
  go_wp2_with fail
  refine (hz.out).mono ?_
  rintro e w3 ⟨Q, cq, R, cr, rfl, q1, q2, r1, r2, qo, ro, hb3⟩
  obtain ⟨q, eq, lq, vq⟩ : ∃ q, q = vz ma.length ((nv ma / nv mb : Nat) : Int) ∧ q.length = a.length ∧ nv q = mg a / mg b := ⟨_, rfl, by rw [vz_length]; exact LA.out, by
    rw [nv_vz_nat, VA.out, VB.out]
    rw [LA.out, VA.out]
    exact Nat.lt_of_le_of_lt (Nat.div_le_self _ _) (mg_lt' a)⟩
  obtain ⟨r, er, lr, vr⟩ : ∃ r, r = vz ma.length ((nv ma % nv mb : Nat) : Int) ∧ r.length = a.length ∧ nv r = mg a % mg b := ⟨_, rfl, by rw [vz_length]; exact LA.out, by
    rw [nv_vz_nat, VA.out, VB.out]
    rw [LA.out, VA.out]
    exact Nat.lt_of_le_of_lt (Nat.mod_le _ _) (mg_lt' a)⟩
  rw [← eq] at q1 qo ⊢
  rw [← er] at r1 ro ⊢
  have hW3 := hide (hW2.out.trans (hb3.mono hW2.out.size))
  have QO := hide (qo.base hW2.out.size)
  have RO := hide (ro.base hW2.out.size)
  have Q1 := hide q1
  have Q2 := hide q2
  have R1 := hide r1
  have R2 := hide r2
  have LQ := hide lq
  have LR := hide lr
  have VQ := hide vq
  have VR := hide vr
  have hq4 : q.length ≤ 4096 := by omega
  have hr4 : r.length ≤ 4096 := by omega
  have HA3 := hide (HA.out.below hW3.out)
  have HB3 := hide (HB.out.below hW3.out)
  have eqv : q = vz a.length ((mg a / mg b : Nat) : Int) := by rw [eq, LA.out, VA.out, VB.out]
  have erv : r = vz a.length ((mg a % mg b : Nat) : Int) := by rw [er, LA.out, VA.out, VB.out]
  have EQ := hide eqv
  have ER := hide erv
  clear eq er q1 q2 r1 r2 qo ro hb3 lq lr vq vr eqv erv hz
  cases hx : ng a <;> cases hy : ng b
  · have hs := hide (sdiv_pp hx hy)
    go_wp2_with (first
      | (go_at_call 63; (with_reducible refine (neg_any _ _ _ _ (by assumption) (by first | exact HA3.out | exact HB3.out)).mono ?_); rintro e w' ⟨rfl, rfl⟩))
    go_ret3
    exact MkD.mk2 QO.out RO.out Q1.out Q2.out R1.out R2.out hW3.out (by rw [EQ.out, hs.out.1]) (by rw [ER.out, hs.out.2])
  · have hs := hide (sdiv_pn hx hy)
    go_wp2_with (first
      | (go_at_call 63; (with_reducible refine (neg_any _ _ _ _ (by assumption) (by first | exact HA3.out | exact HB3.out)).mono ?_); rintro e w' ⟨rfl, rfl⟩)
      | (go_at_call 18; (with_reducible refine (neg2_any _ _ _ _ (by assumption) QO.out.rd).mono ?_); rintro e w4 ⟨Q4, c4, rfl, t1, t2, t3, tb⟩; have T1 := hide t1; have T2 := hide t2; have T3 := hide t3; have TB := hide tb; have HA4 := hide (HA.out.below (hW3.out.trans (TB.out.mono hW3.out.size))); clear t1 t2 t3 tb)
      | (go_at_call 63; (with_reducible refine (neg_any _ _ _ _ (by assumption) HA4.out).mono ?_); rintro e w' ⟨rfl, rfl⟩))
    go_ret3
    exact MkD.mk2 (T3.out.base hW3.out.size) (RO.out.kept TB.out) T1.out T2.out R1.out R2.out (hW3.out.trans (TB.out.mono hW3.out.size)) (by rw [VQ.out, LQ.out, ← hs.out.1]) (by rw [ER.out, hs.out.2])
  · have hs := hide (sdiv_np hx hy)
    go_wp2_with fail
    refine (neg_any _ _ _ _ ha HA3.out).mono ?_
    rintro e w' ⟨rfl, rfl⟩
    go_wp2_with fail
    refine (neg_any _ _ _ _ hb HB3.out).mono ?_
    rintro e w' ⟨rfl, rfl⟩
    go_wp2_with fail
    refine (neg2_any _ _ _ _ hq4 QO.out.rd).mono ?_
    rintro e w4 ⟨Q4, c4, rfl, t1, t2, t3, tb⟩
    have T1 := hide t1
    have T2 := hide t2
    have T3 := hide t3
    have TB := hide tb
    have hW4 := hide (hW3.out.trans (tb.mono hW3.out.size))
    clear t1 t2 t3 tb
    go_wp2_with fail
    refine (neg_any _ _ _ _ ha (HA.out.below hW4.out)).mono ?_
    rintro e w' ⟨rfl, rfl⟩
    go_wp2_with fail
    refine (neg2_any _ _ _ _ hr4 (RO.out.kept TB.out).rd).mono ?_
    rintro e w5 ⟨R5, c5, rfl, t1, t2, t3, tb⟩
    have S1 := hide t1
    have S2 := hide t2
    have S3 := hide t3
    have SB := hide tb
    clear t1 t2 t3 tb
    go_wp2
    go_ret3
    exact MkD.mk2 ((T3.out.base hW3.out.size).kept SB.out) (S3.out.base hW4.out.size) T1.out T2.out S1.out S2.out (hW4.out.trans (SB.out.mono hW4.out.size)) (by rw [VQ.out, LQ.out, ← hs.out.1]) (by rw [VR.out, LR.out, ← hs.out.2])
  · have hs := hide (sdiv_nn hx hy)
    go_wp2_with fail
    refine (neg_any _ _ _ _ ha HA3.out).mono ?_
    rintro e w' ⟨rfl, rfl⟩
    go_wp2_with fail
    refine (neg_any _ _ _ _ hb HB3.out).mono ?_
    rintro e w' ⟨rfl, rfl⟩
    go_wp2_with fail
    refine (neg_any _ _ _ _ ha HA3.out).mono ?_
    rintro e w' ⟨rfl, rfl⟩
    go_wp2_with fail
    refine (neg2_any _ _ _ _ hr4 RO.out.rd).mono ?_
    rintro e w5 ⟨R5, c5, rfl, t1, t2, t3, tb⟩
    have S1 := hide t1
    have S2 := hide t2
    have S3 := hide t3
    have SB := hide tb
    clear t1 t2 t3 tb
    go_wp2
    go_ret3
    exact MkD.mk2 (QO.out.kept SB.out) (S3.out.base hW3.out.size) Q1.out Q2.out S1.out S2.out (hW3.out.trans (SB.out.mono hW3.out.size)) (by rw [EQ.out, hs.out.1]) (by rw [VR.out, LR.out, ← hs.out.2])
end Go.Proofs.Ytkjiaflmaniplaa
