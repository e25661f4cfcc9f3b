/-
  The contracts in the form of the walks; awake: the chapter's examples hold.
-/
import Derived.Test.YtkjiaflmaniplaaBvR
namespace Go.Proofs.Ytkjiaflmaniplaa
open Go.RowKit
set_option linter.unusedSimpArgs false
set_option linter.unusedVariables false

section
variable (A B : Option Addr) (a b : List Bool) (c d : Nat) (w : World) (ha : a.length ≤ 4096)
include ha in
theorem add_r (hb : b.length ≤ 4096) (hA : Rd w A a) (hB : Rd w B b) : Calls Try.prog 16 #[.slice A a.length c, .slice B b.length d] w (RetP (fun l => l = vz a.length ((nv a : Int) + nv b)) w) :=
  (add_any A B a b c d w ha hb hA hB).mono fun _ _ h => RetP.of_mkV rfl h
include ha in
theorem sub_r (hb : b.length ≤ 4096) (hA : Rd w A a) (hB : Rd w B b) : Calls Try.prog 17 #[.slice A a.length c, .slice B b.length d] w (RetP (fun l => l = vz a.length ((nv a : Int) - nv b)) w) :=
  (sub_any A B a b c d w ha hb hA hB).mono fun _ _ h => RetP.of_mkV rfl h
include ha in
theorem mul_r (hb : b.length ≤ 4096) (hA : Rd w A a) (hB : Rd w B b) : Calls Try.prog 19 #[.slice A a.length c, .slice B b.length d] w (RetP (fun l => l = vz a.length ((nv a : Int) * nv b)) w) :=
  (mul_any A B a b c d w ha hb hA hB).mono fun _ _ h => RetP.of_mkV rfl h
include ha in
theorem pow_r (hb : b.length ≤ 4096) (hA : Rd w A a) (hB : Rd w B b) : Calls Try.prog 46 #[.slice A a.length c, .slice B b.length d] w (RetP (fun l => l = vz a.length ((nv a : Int) ^ nv b)) w) :=
  (pow_any A B a b c d w ha hb hA hB).mono fun _ _ h => RetP.of_mkV rfl h
include ha in
theorem neg_r (hA : Rd w A a) : Calls Try.prog 18 #[.slice A a.length c] w (RetP (fun l => l = vz a.length (-(nv a : Int))) w) :=
  (neg2_any A a c w ha hA).mono fun _ _ h => RetP.of_mkV rfl h
end
section
variable (A : Option Addr) (a : List Bool) (c : Nat) (k : Int) (w : World) (ha : a.length ≤ 4096) (hA : Rd w A a)
include ha hA
theorem shl_r : Calls Try.prog 35 #[.slice A a.length c, .int .i64 k] w (RetP (fun l => l = vz a.length ((nv a : Int) * 2 ^ k.toNat)) w) :=
  (shl_any A a c k w ha hA).mono fun _ _ h => RetP.of_mkV rfl h
theorem shr_r : Calls Try.prog 36 #[.slice A a.length c, .int .i64 k] w (RetP (fun l => l = vz a.length ((nv a : Int) / 2 ^ k.toNat)) w) :=
  (shr_any A a c k w ha hA).mono fun _ _ h => RetP.of_mkV rfl h
theorem sar_r : Calls Try.prog 37 #[.slice A a.length c, .int .i64 k] w (RetP (fun l => l = vz a.length (sv a / 2 ^ k.toNat)) w) :=
  (sar_any A a c k w ha hA).mono fun _ _ h => RetP.of_mkV rfl h
end
/-- Two vectors and no error. -/
def RetD (P Q : List Bool → Prop) (w : World) (e : Ending) (w' : World) : Prop :=
  ∃ q A c r B d, Hid (P q) ∧ Hid (Q r) ∧ e = .returned (.tuple #[.slice A q.length c, .slice B r.length d, .int .i64 0]) ∧ Hid (Own w.heap.size w' A q) ∧ Hid (Own w.heap.size w' B r) ∧ Below w.heap.size w w'
theorem RetD.of_mkD {q r : List Bool} {w w' : World} {e : Ending} {P Q : List Bool → Prop} (hp : P q) (hq : Q r) (h : MkD q r w e w') : RetD P Q w e w' := by
  obtain ⟨A, c, B, d, he, _, _, _, _, h1, h2, h3⟩ := h
  exact ⟨q, A, c, r, B, d, hide hp, hide hq, he, hide h1, hide h2, h3⟩
section
variable (A B : Option Addr) (a b : List Bool) (c d : Nat) (w : World) (ha : a.length ≤ 4096) (hb : b.length ≤ 4096) (hA : Rd w A a) (hB : Rd w B b)
include ha hb hA hB
theorem div_r (h0 : 0 < nv b) : Calls Try.prog 32 #[.slice A a.length c, .slice B b.length d] w (RetD (fun q => q = vz a.length ((nv a / nv b : Nat) : Int)) (fun r => r = vz a.length ((nv a % nv b : Nat) : Int)) w) :=
  (div_any A B a b c d w ha hb hA hB h0).mono fun _ _ h => RetD.of_mkD rfl rfl h
theorem sdiv_r (h0 : 0 < nv b) : Calls Try.prog 33 #[.slice A a.length c, .slice B b.length d] w (RetD (fun q => q = vz a.length ((sv a).tdiv (sv b))) (fun r => r = vz a.length ((sv a).tmod (sv b))) w) :=
  (sdiv_any A B a b c d w ha hb hA hB h0).mono fun _ _ h => RetD.of_mkD rfl rfl h
end

set_option maxRecDepth 100000 in
set_option maxHeartbeats 4000000 in
theorem awake_any (w : World) : Calls Try.prog 14 #[] w (Mk (.bool true) w) := by
  go_enter Try.func14, Try.ntmps14
  have HB := hide (Below.refl w.heap.size w)
  go_wp2_with fail
  refine (of_any 13 4 _ (by omega) (by omega) (by omega)).mono ?_
  rintro e w1 ⟨r1, A1, c1, E1, rfl, C1, O1, hb⟩
  have L1 : r1.length ≤ 4096 := by rw [E1.out, vz_length]; omega
  replace HB := hide (HB.out.trans (hb.mono HB.out.size))
  clear hb
  have R1 := hide O1.out.rd
  clear O1
  go_wp2_with fail
  refine (of_any 5 4 _ (by omega) (by omega) (by omega)).mono ?_
  rintro e w2 ⟨r2, A2, c2, E2, rfl, C2, O2, hb⟩
  have L2 : r2.length ≤ 4096 := by rw [E2.out, vz_length]; omega
  replace R1 := hide (R1.out.below hb)
  replace HB := hide (HB.out.trans (hb.mono HB.out.size))
  clear hb
  have R2 := hide O2.out.rd
  clear O2
  go_wp2_with fail
  refine (div_r _ _ r1 r2 _ _ _ L1 L2 R1.out R2.out (by rw [E2.out]; decide)).mono ?_
  rintro e w3 ⟨rq1, Aq1, cq1, rs1, As1, cs1, Eq1, Es1, rfl, Oq1, Os1, hb⟩
  have Lq1 : rq1.length ≤ 4096 := by rw [Eq1.out, vz_length]; omega
  have Ls1 : rs1.length ≤ 4096 := by rw [Es1.out, vz_length]; omega
  replace R1 := hide (R1.out.below hb)
  replace R2 := hide (R2.out.below hb)
  replace HB := hide (HB.out.trans (hb.mono HB.out.size))
  clear hb
  have Rq1 := hide Oq1.out.rd
  clear Oq1
  have Rs1 := hide Os1.out.rd
  clear Os1
  clear R1
  clear R2
  go_wp2_with fail
  refine (of_any 13 4 _ (by omega) (by omega) (by omega)).mono ?_
  rintro e w4 ⟨r3, A3, c3, E3, rfl, C3, O3, hb⟩
  have L3 : r3.length ≤ 4096 := by rw [E3.out, vz_length]; omega
  replace Rq1 := hide (Rq1.out.below hb)
  replace Rs1 := hide (Rs1.out.below hb)
  replace HB := hide (HB.out.trans (hb.mono HB.out.size))
  clear hb
  have R3 := hide O3.out.rd
  clear O3
  go_wp2_with fail
  refine (of_any 2 4 _ (by omega) (by omega) (by omega)).mono ?_
  rintro e w5 ⟨r4, A4, c4, E4, rfl, C4, O4, hb⟩
  have L4 : r4.length ≤ 4096 := by rw [E4.out, vz_length]; omega
  replace Rq1 := hide (Rq1.out.below hb)
  replace Rs1 := hide (Rs1.out.below hb)
  replace R3 := hide (R3.out.below hb)
  replace HB := hide (HB.out.trans (hb.mono HB.out.size))
  clear hb
  have R4 := hide O4.out.rd
  clear O4
  go_wp2_with fail
  refine (sdiv_r _ _ r3 r4 _ _ _ L3 L4 R3.out R4.out (by rw [E4.out]; decide)).mono ?_
  rintro e w6 ⟨rq2, Aq2, cq2, rs2, As2, cs2, Eq2, Es2, rfl, Oq2, Os2, hb⟩
  have Lq2 : rq2.length ≤ 4096 := by rw [Eq2.out, vz_length]; omega
  have Ls2 : rs2.length ≤ 4096 := by rw [Es2.out, vz_length]; omega
  replace Rq1 := hide (Rq1.out.below hb)
  replace Rs1 := hide (Rs1.out.below hb)
  replace R3 := hide (R3.out.below hb)
  replace R4 := hide (R4.out.below hb)
  replace HB := hide (HB.out.trans (hb.mono HB.out.size))
  clear hb
  have Rq2 := hide Oq2.out.rd
  clear Oq2
  have Rs2 := hide Os2.out.rd
  clear Os2
  clear R3
  clear R4
  go_wp2_with fail
  refine (of_any 8 4 _ (by omega) (by omega) (by omega)).mono ?_
  rintro e w7 ⟨r5, A5, c5, E5, rfl, C5, O5, hb⟩
  have L5 : r5.length ≤ 4096 := by rw [E5.out, vz_length]; omega
  replace Rq1 := hide (Rq1.out.below hb)
  replace Rs1 := hide (Rs1.out.below hb)
  replace Rq2 := hide (Rq2.out.below hb)
  replace Rs2 := hide (Rs2.out.below hb)
  replace HB := hide (HB.out.trans (hb.mono HB.out.size))
  clear hb
  have R5 := hide O5.out.rd
  clear O5
  go_wp2_with fail
  refine (of_any 15 4 _ (by omega) (by omega) (by omega)).mono ?_
  rintro e w8 ⟨r6, A6, c6, E6, rfl, C6, O6, hb⟩
  have L6 : r6.length ≤ 4096 := by rw [E6.out, vz_length]; omega
  replace Rq1 := hide (Rq1.out.below hb)
  replace Rs1 := hide (Rs1.out.below hb)
  replace Rq2 := hide (Rq2.out.below hb)
  replace Rs2 := hide (Rs2.out.below hb)
  replace R5 := hide (R5.out.below hb)
  replace HB := hide (HB.out.trans (hb.mono HB.out.size))
  clear hb
  have R6 := hide O6.out.rd
  clear O6
  go_wp2_with fail
  refine (sdiv_r _ _ r5 r6 _ _ _ L5 L6 R5.out R6.out (by rw [E6.out]; decide)).mono ?_
  rintro e w9 ⟨rq3, Aq3, cq3, rs3, As3, cs3, Eq3, Es3, rfl, Oq3, Os3, hb⟩
  have Lq3 : rq3.length ≤ 4096 := by rw [Eq3.out, vz_length]; omega
  have Ls3 : rs3.length ≤ 4096 := by rw [Es3.out, vz_length]; omega
  replace Rq1 := hide (Rq1.out.below hb)
  replace Rs1 := hide (Rs1.out.below hb)
  replace Rq2 := hide (Rq2.out.below hb)
  replace Rs2 := hide (Rs2.out.below hb)
  replace R5 := hide (R5.out.below hb)
  replace R6 := hide (R6.out.below hb)
  replace HB := hide (HB.out.trans (hb.mono HB.out.size))
  clear hb
  have Rq3 := hide Oq3.out.rd
  clear Oq3
  have Rs3 := hide Os3.out.rd
  clear Os3
  clear R5
  clear R6
  go_wp2_with fail
  refine (of_any 13 4 _ (by omega) (by omega) (by omega)).mono ?_
  rintro e w10 ⟨ra1, Aa1, ca1, Ea1, rfl, Ca1, Oa1, hb⟩
  have La1 : ra1.length ≤ 4096 := by rw [Ea1.out, vz_length]; omega
  replace Rq1 := hide (Rq1.out.below hb)
  replace Rs1 := hide (Rs1.out.below hb)
  replace Rq2 := hide (Rq2.out.below hb)
  replace Rs2 := hide (Rs2.out.below hb)
  replace Rq3 := hide (Rq3.out.below hb)
  replace Rs3 := hide (Rs3.out.below hb)
  replace HB := hide (HB.out.trans (hb.mono HB.out.size))
  clear hb
  have Ra1 := hide Oa1.out.rd
  clear Oa1
  go_wp2_with fail
  refine (of_any 5 4 _ (by omega) (by omega) (by omega)).mono ?_
  rintro e w11 ⟨ra2, Aa2, ca2, Ea2, rfl, Ca2, Oa2, hb⟩
  have La2 : ra2.length ≤ 4096 := by rw [Ea2.out, vz_length]; omega
  replace Rq1 := hide (Rq1.out.below hb)
  replace Rs1 := hide (Rs1.out.below hb)
  replace Rq2 := hide (Rq2.out.below hb)
  replace Rs2 := hide (Rs2.out.below hb)
  replace Rq3 := hide (Rq3.out.below hb)
  replace Rs3 := hide (Rs3.out.below hb)
  replace Ra1 := hide (Ra1.out.below hb)
  replace HB := hide (HB.out.trans (hb.mono HB.out.size))
  clear hb
  have Ra2 := hide Oa2.out.rd
  clear Oa2
  go_wp2_with fail
  refine (add_r _ _ ra1 ra2 _ _ _ La1 La2 Ra1.out Ra2.out).mono ?_
  rintro e w12 ⟨ra3, Aa3, ca3, Ea3, rfl, Ca3, Oa3, hb⟩
  have La3 : ra3.length ≤ 4096 := by rw [Ea3.out, vz_length]; omega
  replace Rq1 := hide (Rq1.out.below hb)
  replace Rs1 := hide (Rs1.out.below hb)
  replace Rq2 := hide (Rq2.out.below hb)
  replace Rs2 := hide (Rs2.out.below hb)
  replace Rq3 := hide (Rq3.out.below hb)
  replace Rs3 := hide (Rs3.out.below hb)
  replace Ra1 := hide (Ra1.out.below hb)
  replace Ra2 := hide (Ra2.out.below hb)
  replace HB := hide (HB.out.trans (hb.mono HB.out.size))
  clear hb
  have Ra3 := hide Oa3.out.rd
  clear Oa3
  go_wp2_with fail
  refine (of_any 2 4 _ (by omega) (by omega) (by omega)).mono ?_
  rintro e w13 ⟨ra4, Aa4, ca4, Ea4, rfl, Ca4, Oa4, hb⟩
  have La4 : ra4.length ≤ 4096 := by rw [Ea4.out, vz_length]; omega
  replace Rq1 := hide (Rq1.out.below hb)
  replace Rs1 := hide (Rs1.out.below hb)
  replace Rq2 := hide (Rq2.out.below hb)
  replace Rs2 := hide (Rs2.out.below hb)
  replace Rq3 := hide (Rq3.out.below hb)
  replace Rs3 := hide (Rs3.out.below hb)
  replace Ra1 := hide (Ra1.out.below hb)
  replace Ra2 := hide (Ra2.out.below hb)
  replace Ra3 := hide (Ra3.out.below hb)
  replace HB := hide (HB.out.trans (hb.mono HB.out.size))
  clear hb
  have Ra4 := hide Oa4.out.rd
  clear Oa4
  go_wp2_with fail
  refine (same_yes _ _ _ _ _ _ _ La3 Ra3.out Ra4.out (by rw [Ea3.out, Ea4.out, Ea1.out, Ea2.out]; decide)).mono ?_
  rintro e w14 ⟨rfl, hb⟩
  replace Rq1 := hide (Rq1.out.below hb)
  replace Rs1 := hide (Rs1.out.below hb)
  replace Rq2 := hide (Rq2.out.below hb)
  replace Rs2 := hide (Rs2.out.below hb)
  replace Rq3 := hide (Rq3.out.below hb)
  replace Rs3 := hide (Rs3.out.below hb)
  replace Ra1 := hide (Ra1.out.below hb)
  replace Ra2 := hide (Ra2.out.below hb)
  replace Ra3 := hide (Ra3.out.below hb)
  replace Ra4 := hide (Ra4.out.below hb)
  replace HB := hide (HB.out.trans (hb.mono HB.out.size))
  clear hb
  clear Ra1
  clear Ra2
  clear Ra3
  clear Ra4
  go_wp2_with fail
  refine (of_any 3 4 _ (by omega) (by omega) (by omega)).mono ?_
  rintro e w15 ⟨rb1, Ab1, cb1, Eb1, rfl, Cb1, Ob1, hb⟩
  have Lb1 : rb1.length ≤ 4096 := by rw [Eb1.out, vz_length]; omega
  replace Rq1 := hide (Rq1.out.below hb)
  replace Rs1 := hide (Rs1.out.below hb)
  replace Rq2 := hide (Rq2.out.below hb)
  replace Rs2 := hide (Rs2.out.below hb)
  replace Rq3 := hide (Rq3.out.below hb)
  replace Rs3 := hide (Rs3.out.below hb)
  replace HB := hide (HB.out.trans (hb.mono HB.out.size))
  clear hb
  have Rb1 := hide Ob1.out.rd
  clear Ob1
  go_wp2_with fail
  refine (of_any 5 4 _ (by omega) (by omega) (by omega)).mono ?_
  rintro e w16 ⟨rb2, Ab2, cb2, Eb2, rfl, Cb2, Ob2, hb⟩
  have Lb2 : rb2.length ≤ 4096 := by rw [Eb2.out, vz_length]; omega
  replace Rq1 := hide (Rq1.out.below hb)
  replace Rs1 := hide (Rs1.out.below hb)
  replace Rq2 := hide (Rq2.out.below hb)
  replace Rs2 := hide (Rs2.out.below hb)
  replace Rq3 := hide (Rq3.out.below hb)
  replace Rs3 := hide (Rs3.out.below hb)
  replace Rb1 := hide (Rb1.out.below hb)
  replace HB := hide (HB.out.trans (hb.mono HB.out.size))
  clear hb
  have Rb2 := hide Ob2.out.rd
  clear Ob2
  go_wp2_with fail
  refine (sub_r _ _ rb1 rb2 _ _ _ Lb1 Lb2 Rb1.out Rb2.out).mono ?_
  rintro e w17 ⟨rb3, Ab3, cb3, Eb3, rfl, Cb3, Ob3, hb⟩
  have Lb3 : rb3.length ≤ 4096 := by rw [Eb3.out, vz_length]; omega
  replace Rq1 := hide (Rq1.out.below hb)
  replace Rs1 := hide (Rs1.out.below hb)
  replace Rq2 := hide (Rq2.out.below hb)
  replace Rs2 := hide (Rs2.out.below hb)
  replace Rq3 := hide (Rq3.out.below hb)
  replace Rs3 := hide (Rs3.out.below hb)
  replace Rb1 := hide (Rb1.out.below hb)
  replace Rb2 := hide (Rb2.out.below hb)
  replace HB := hide (HB.out.trans (hb.mono HB.out.size))
  clear hb
  have Rb3 := hide Ob3.out.rd
  clear Ob3
  go_wp2_with fail
  refine (of_any 14 4 _ (by omega) (by omega) (by omega)).mono ?_
  rintro e w18 ⟨rb4, Ab4, cb4, Eb4, rfl, Cb4, Ob4, hb⟩
  have Lb4 : rb4.length ≤ 4096 := by rw [Eb4.out, vz_length]; omega
  replace Rq1 := hide (Rq1.out.below hb)
  replace Rs1 := hide (Rs1.out.below hb)
  replace Rq2 := hide (Rq2.out.below hb)
  replace Rs2 := hide (Rs2.out.below hb)
  replace Rq3 := hide (Rq3.out.below hb)
  replace Rs3 := hide (Rs3.out.below hb)
  replace Rb1 := hide (Rb1.out.below hb)
  replace Rb2 := hide (Rb2.out.below hb)
  replace Rb3 := hide (Rb3.out.below hb)
  replace HB := hide (HB.out.trans (hb.mono HB.out.size))
  clear hb
  have Rb4 := hide Ob4.out.rd
  clear Ob4
  go_wp2_with fail
  refine (same_yes _ _ _ _ _ _ _ Lb3 Rb3.out Rb4.out (by rw [Eb3.out, Eb4.out, Eb1.out, Eb2.out]; decide)).mono ?_
  rintro e w19 ⟨rfl, hb⟩
  replace Rq1 := hide (Rq1.out.below hb)
  replace Rs1 := hide (Rs1.out.below hb)
  replace Rq2 := hide (Rq2.out.below hb)
  replace Rs2 := hide (Rs2.out.below hb)
  replace Rq3 := hide (Rq3.out.below hb)
  replace Rs3 := hide (Rs3.out.below hb)
  replace Rb1 := hide (Rb1.out.below hb)
  replace Rb2 := hide (Rb2.out.below hb)
  replace Rb3 := hide (Rb3.out.below hb)
  replace Rb4 := hide (Rb4.out.below hb)
  replace HB := hide (HB.out.trans (hb.mono HB.out.size))
  clear hb
  clear Rb1
  clear Rb2
  clear Rb3
  clear Rb4
  go_wp2_with fail
  refine (of_any 7 4 _ (by omega) (by omega) (by omega)).mono ?_
  rintro e w20 ⟨rd1, Ad1, cd1, Ed1, rfl, Cd1, Od1, hb⟩
  have Ld1 : rd1.length ≤ 4096 := by rw [Ed1.out, vz_length]; omega
  replace Rq1 := hide (Rq1.out.below hb)
  replace Rs1 := hide (Rs1.out.below hb)
  replace Rq2 := hide (Rq2.out.below hb)
  replace Rs2 := hide (Rs2.out.below hb)
  replace Rq3 := hide (Rq3.out.below hb)
  replace Rs3 := hide (Rs3.out.below hb)
  replace HB := hide (HB.out.trans (hb.mono HB.out.size))
  clear hb
  have Rd1 := hide Od1.out.rd
  clear Od1
  go_wp2_with fail
  refine (of_any 7 4 _ (by omega) (by omega) (by omega)).mono ?_
  rintro e w21 ⟨rd2, Ad2, cd2, Ed2, rfl, Cd2, Od2, hb⟩
  have Ld2 : rd2.length ≤ 4096 := by rw [Ed2.out, vz_length]; omega
  replace Rq1 := hide (Rq1.out.below hb)
  replace Rs1 := hide (Rs1.out.below hb)
  replace Rq2 := hide (Rq2.out.below hb)
  replace Rs2 := hide (Rs2.out.below hb)
  replace Rq3 := hide (Rq3.out.below hb)
  replace Rs3 := hide (Rs3.out.below hb)
  replace Rd1 := hide (Rd1.out.below hb)
  replace HB := hide (HB.out.trans (hb.mono HB.out.size))
  clear hb
  have Rd2 := hide Od2.out.rd
  clear Od2
  go_wp2_with fail
  refine (mul_r _ _ rd1 rd2 _ _ _ Ld1 Ld2 Rd1.out Rd2.out).mono ?_
  rintro e w22 ⟨rd3, Ad3, cd3, Ed3, rfl, Cd3, Od3, hb⟩
  have Ld3 : rd3.length ≤ 4096 := by rw [Ed3.out, vz_length]; omega
  replace Rq1 := hide (Rq1.out.below hb)
  replace Rs1 := hide (Rs1.out.below hb)
  replace Rq2 := hide (Rq2.out.below hb)
  replace Rs2 := hide (Rs2.out.below hb)
  replace Rq3 := hide (Rq3.out.below hb)
  replace Rs3 := hide (Rs3.out.below hb)
  replace Rd1 := hide (Rd1.out.below hb)
  replace Rd2 := hide (Rd2.out.below hb)
  replace HB := hide (HB.out.trans (hb.mono HB.out.size))
  clear hb
  have Rd3 := hide Od3.out.rd
  clear Od3
  go_wp2_with fail
  refine (of_any 1 4 _ (by omega) (by omega) (by omega)).mono ?_
  rintro e w23 ⟨rd4, Ad4, cd4, Ed4, rfl, Cd4, Od4, hb⟩
  have Ld4 : rd4.length ≤ 4096 := by rw [Ed4.out, vz_length]; omega
  replace Rq1 := hide (Rq1.out.below hb)
  replace Rs1 := hide (Rs1.out.below hb)
  replace Rq2 := hide (Rq2.out.below hb)
  replace Rs2 := hide (Rs2.out.below hb)
  replace Rq3 := hide (Rq3.out.below hb)
  replace Rs3 := hide (Rs3.out.below hb)
  replace Rd1 := hide (Rd1.out.below hb)
  replace Rd2 := hide (Rd2.out.below hb)
  replace Rd3 := hide (Rd3.out.below hb)
  replace HB := hide (HB.out.trans (hb.mono HB.out.size))
  clear hb
  have Rd4 := hide Od4.out.rd
  clear Od4
  go_wp2_with fail
  refine (same_yes _ _ _ _ _ _ _ Ld3 Rd3.out Rd4.out (by rw [Ed3.out, Ed4.out, Ed1.out, Ed2.out]; decide)).mono ?_
  rintro e w24 ⟨rfl, hb⟩
  replace Rq1 := hide (Rq1.out.below hb)
  replace Rs1 := hide (Rs1.out.below hb)
  replace Rq2 := hide (Rq2.out.below hb)
  replace Rs2 := hide (Rs2.out.below hb)
  replace Rq3 := hide (Rq3.out.below hb)
  replace Rs3 := hide (Rs3.out.below hb)
  replace Rd1 := hide (Rd1.out.below hb)
  replace Rd2 := hide (Rd2.out.below hb)
  replace Rd3 := hide (Rd3.out.below hb)
  replace Rd4 := hide (Rd4.out.below hb)
  replace HB := hide (HB.out.trans (hb.mono HB.out.size))
  clear hb
  clear Rd1
  clear Rd2
  clear Rd3
  clear Rd4
  go_wp2_with fail
  refine (of_any 3 4 _ (by omega) (by omega) (by omega)).mono ?_
  rintro e w25 ⟨re1, Ae1, ce1, Ee1, rfl, Ce1, Oe1, hb⟩
  have Le1 : re1.length ≤ 4096 := by rw [Ee1.out, vz_length]; omega
  replace Rq1 := hide (Rq1.out.below hb)
  replace Rs1 := hide (Rs1.out.below hb)
  replace Rq2 := hide (Rq2.out.below hb)
  replace Rs2 := hide (Rs2.out.below hb)
  replace Rq3 := hide (Rq3.out.below hb)
  replace Rs3 := hide (Rs3.out.below hb)
  replace HB := hide (HB.out.trans (hb.mono HB.out.size))
  clear hb
  have Re1 := hide Oe1.out.rd
  clear Oe1
  go_wp2_with fail
  refine (of_any 5 4 _ (by omega) (by omega) (by omega)).mono ?_
  rintro e w26 ⟨re2, Ae2, ce2, Ee2, rfl, Ce2, Oe2, hb⟩
  have Le2 : re2.length ≤ 4096 := by rw [Ee2.out, vz_length]; omega
  replace Rq1 := hide (Rq1.out.below hb)
  replace Rs1 := hide (Rs1.out.below hb)
  replace Rq2 := hide (Rq2.out.below hb)
  replace Rs2 := hide (Rs2.out.below hb)
  replace Rq3 := hide (Rq3.out.below hb)
  replace Rs3 := hide (Rs3.out.below hb)
  replace Re1 := hide (Re1.out.below hb)
  replace HB := hide (HB.out.trans (hb.mono HB.out.size))
  clear hb
  have Re2 := hide Oe2.out.rd
  clear Oe2
  go_wp2_with fail
  refine (pow_r _ _ re1 re2 _ _ _ Le1 Le2 Re1.out Re2.out).mono ?_
  rintro e w27 ⟨re3, Ae3, ce3, Ee3, rfl, Ce3, Oe3, hb⟩
  have Le3 : re3.length ≤ 4096 := by rw [Ee3.out, vz_length]; omega
  replace Rq1 := hide (Rq1.out.below hb)
  replace Rs1 := hide (Rs1.out.below hb)
  replace Rq2 := hide (Rq2.out.below hb)
  replace Rs2 := hide (Rs2.out.below hb)
  replace Rq3 := hide (Rq3.out.below hb)
  replace Rs3 := hide (Rs3.out.below hb)
  replace Re1 := hide (Re1.out.below hb)
  replace Re2 := hide (Re2.out.below hb)
  replace HB := hide (HB.out.trans (hb.mono HB.out.size))
  clear hb
  have Re3 := hide Oe3.out.rd
  clear Oe3
  go_wp2_with fail
  refine (of_any 3 4 _ (by omega) (by omega) (by omega)).mono ?_
  rintro e w28 ⟨re4, Ae4, ce4, Ee4, rfl, Ce4, Oe4, hb⟩
  have Le4 : re4.length ≤ 4096 := by rw [Ee4.out, vz_length]; omega
  replace Rq1 := hide (Rq1.out.below hb)
  replace Rs1 := hide (Rs1.out.below hb)
  replace Rq2 := hide (Rq2.out.below hb)
  replace Rs2 := hide (Rs2.out.below hb)
  replace Rq3 := hide (Rq3.out.below hb)
  replace Rs3 := hide (Rs3.out.below hb)
  replace Re1 := hide (Re1.out.below hb)
  replace Re2 := hide (Re2.out.below hb)
  replace Re3 := hide (Re3.out.below hb)
  replace HB := hide (HB.out.trans (hb.mono HB.out.size))
  clear hb
  have Re4 := hide Oe4.out.rd
  clear Oe4
  go_wp2_with fail
  refine (same_yes _ _ _ _ _ _ _ Le3 Re3.out Re4.out (by rw [Ee3.out, Ee4.out, Ee1.out, Ee2.out]; decide)).mono ?_
  rintro e w29 ⟨rfl, hb⟩
  replace Rq1 := hide (Rq1.out.below hb)
  replace Rs1 := hide (Rs1.out.below hb)
  replace Rq2 := hide (Rq2.out.below hb)
  replace Rs2 := hide (Rs2.out.below hb)
  replace Rq3 := hide (Rq3.out.below hb)
  replace Rs3 := hide (Rs3.out.below hb)
  replace Re1 := hide (Re1.out.below hb)
  replace Re2 := hide (Re2.out.below hb)
  replace Re3 := hide (Re3.out.below hb)
  replace Re4 := hide (Re4.out.below hb)
  replace HB := hide (HB.out.trans (hb.mono HB.out.size))
  clear hb
  clear Re1
  clear Re2
  clear Re3
  clear Re4
  go_wp2_with fail
  refine (of_any 2 4 _ (by omega) (by omega) (by omega)).mono ?_
  rintro e w30 ⟨rf1, Af1, cf1, Ef1, rfl, Cf1, Of1, hb⟩
  have Lf1 : rf1.length ≤ 4096 := by rw [Ef1.out, vz_length]; omega
  replace Rq1 := hide (Rq1.out.below hb)
  replace Rs1 := hide (Rs1.out.below hb)
  replace Rq2 := hide (Rq2.out.below hb)
  replace Rs2 := hide (Rs2.out.below hb)
  replace Rq3 := hide (Rq3.out.below hb)
  replace Rs3 := hide (Rs3.out.below hb)
  replace HB := hide (HB.out.trans (hb.mono HB.out.size))
  clear hb
  have Rf1 := hide Of1.out.rd
  clear Of1
  go_wp2_with fail
  refine (same_yes _ _ _ _ _ _ _ Lq1 Rq1.out Rf1.out (by rw [Eq1.out, Ef1.out, E1.out, E2.out]; decide)).mono ?_
  rintro e w31 ⟨rfl, hb⟩
  replace Rq1 := hide (Rq1.out.below hb)
  replace Rs1 := hide (Rs1.out.below hb)
  replace Rq2 := hide (Rq2.out.below hb)
  replace Rs2 := hide (Rs2.out.below hb)
  replace Rq3 := hide (Rq3.out.below hb)
  replace Rs3 := hide (Rs3.out.below hb)
  replace Rf1 := hide (Rf1.out.below hb)
  replace HB := hide (HB.out.trans (hb.mono HB.out.size))
  clear hb
  clear Rq1
  clear Rf1
  go_wp2_with fail
  refine (of_any 3 4 _ (by omega) (by omega) (by omega)).mono ?_
  rintro e w32 ⟨rf2, Af2, cf2, Ef2, rfl, Cf2, Of2, hb⟩
  have Lf2 : rf2.length ≤ 4096 := by rw [Ef2.out, vz_length]; omega
  replace Rs1 := hide (Rs1.out.below hb)
  replace Rq2 := hide (Rq2.out.below hb)
  replace Rs2 := hide (Rs2.out.below hb)
  replace Rq3 := hide (Rq3.out.below hb)
  replace Rs3 := hide (Rs3.out.below hb)
  replace HB := hide (HB.out.trans (hb.mono HB.out.size))
  clear hb
  have Rf2 := hide Of2.out.rd
  clear Of2
  go_wp2_with fail
  refine (same_yes _ _ _ _ _ _ _ Ls1 Rs1.out Rf2.out (by rw [Es1.out, Ef2.out, E1.out, E2.out]; decide)).mono ?_
  rintro e w33 ⟨rfl, hb⟩
  replace Rs1 := hide (Rs1.out.below hb)
  replace Rq2 := hide (Rq2.out.below hb)
  replace Rs2 := hide (Rs2.out.below hb)
  replace Rq3 := hide (Rq3.out.below hb)
  replace Rs3 := hide (Rs3.out.below hb)
  replace Rf2 := hide (Rf2.out.below hb)
  replace HB := hide (HB.out.trans (hb.mono HB.out.size))
  clear hb
  clear Rs1
  clear Rf2
  go_wp2_with fail
  refine (of_any 15 4 _ (by omega) (by omega) (by omega)).mono ?_
  rintro e w34 ⟨rf3, Af3, cf3, Ef3, rfl, Cf3, Of3, hb⟩
  have Lf3 : rf3.length ≤ 4096 := by rw [Ef3.out, vz_length]; omega
  replace Rq2 := hide (Rq2.out.below hb)
  replace Rs2 := hide (Rs2.out.below hb)
  replace Rq3 := hide (Rq3.out.below hb)
  replace Rs3 := hide (Rs3.out.below hb)
  replace HB := hide (HB.out.trans (hb.mono HB.out.size))
  clear hb
  have Rf3 := hide Of3.out.rd
  clear Of3
  go_wp2_with fail
  refine (same_yes _ _ _ _ _ _ _ Lq2 Rq2.out Rf3.out (by rw [Eq2.out, Ef3.out, E3.out, E4.out]; decide)).mono ?_
  rintro e w35 ⟨rfl, hb⟩
  replace Rq2 := hide (Rq2.out.below hb)
  replace Rs2 := hide (Rs2.out.below hb)
  replace Rq3 := hide (Rq3.out.below hb)
  replace Rs3 := hide (Rs3.out.below hb)
  replace Rf3 := hide (Rf3.out.below hb)
  replace HB := hide (HB.out.trans (hb.mono HB.out.size))
  clear hb
  clear Rq2
  clear Rf3
  go_wp2_with fail
  refine (of_any 15 4 _ (by omega) (by omega) (by omega)).mono ?_
  rintro e w36 ⟨rf4, Af4, cf4, Ef4, rfl, Cf4, Of4, hb⟩
  have Lf4 : rf4.length ≤ 4096 := by rw [Ef4.out, vz_length]; omega
  replace Rs2 := hide (Rs2.out.below hb)
  replace Rq3 := hide (Rq3.out.below hb)
  replace Rs3 := hide (Rs3.out.below hb)
  replace HB := hide (HB.out.trans (hb.mono HB.out.size))
  clear hb
  have Rf4 := hide Of4.out.rd
  clear Of4
  go_wp2_with fail
  refine (same_yes _ _ _ _ _ _ _ Ls2 Rs2.out Rf4.out (by rw [Es2.out, Ef4.out, E3.out, E4.out]; decide)).mono ?_
  rintro e w37 ⟨rfl, hb⟩
  replace Rs2 := hide (Rs2.out.below hb)
  replace Rq3 := hide (Rq3.out.below hb)
  replace Rs3 := hide (Rs3.out.below hb)
  replace Rf4 := hide (Rf4.out.below hb)
  replace HB := hide (HB.out.trans (hb.mono HB.out.size))
  clear hb
  clear Rs2
  clear Rf4
  go_wp2_with fail
  refine (of_any 8 4 _ (by omega) (by omega) (by omega)).mono ?_
  rintro e w38 ⟨rf5, Af5, cf5, Ef5, rfl, Cf5, Of5, hb⟩
  have Lf5 : rf5.length ≤ 4096 := by rw [Ef5.out, vz_length]; omega
  replace Rq3 := hide (Rq3.out.below hb)
  replace Rs3 := hide (Rs3.out.below hb)
  replace HB := hide (HB.out.trans (hb.mono HB.out.size))
  clear hb
  have Rf5 := hide Of5.out.rd
  clear Of5
  go_wp2_with fail
  refine (same_yes _ _ _ _ _ _ _ Lq3 Rq3.out Rf5.out (by rw [Eq3.out, Ef5.out, E5.out, E6.out]; decide)).mono ?_
  rintro e w39 ⟨rfl, hb⟩
  replace Rq3 := hide (Rq3.out.below hb)
  replace Rs3 := hide (Rs3.out.below hb)
  replace Rf5 := hide (Rf5.out.below hb)
  replace HB := hide (HB.out.trans (hb.mono HB.out.size))
  clear hb
  clear Rq3
  clear Rf5
  go_wp2_with fail
  refine (of_any 0 4 _ (by omega) (by omega) (by omega)).mono ?_
  rintro e w40 ⟨rf6, Af6, cf6, Ef6, rfl, Cf6, Of6, hb⟩
  have Lf6 : rf6.length ≤ 4096 := by rw [Ef6.out, vz_length]; omega
  replace Rs3 := hide (Rs3.out.below hb)
  replace HB := hide (HB.out.trans (hb.mono HB.out.size))
  clear hb
  have Rf6 := hide Of6.out.rd
  clear Of6
  go_wp2_with fail
  refine (same_yes _ _ _ _ _ _ _ Ls3 Rs3.out Rf6.out (by rw [Es3.out, Ef6.out, E5.out, E6.out]; decide)).mono ?_
  rintro e w41 ⟨rfl, hb⟩
  replace Rs3 := hide (Rs3.out.below hb)
  replace Rf6 := hide (Rf6.out.below hb)
  replace HB := hide (HB.out.trans (hb.mono HB.out.size))
  clear hb
  clear Rs3
  clear Rf6
  go_wp2_with fail
  refine (of_any 12 4 _ (by omega) (by omega) (by omega)).mono ?_
  rintro e w42 ⟨rh1, Ah1, ch1, Eh1, rfl, Ch1, Oh1, hb⟩
  have Lh1 : rh1.length ≤ 4096 := by rw [Eh1.out, vz_length]; omega
  replace HB := hide (HB.out.trans (hb.mono HB.out.size))
  clear hb
  have Rh1 := hide Oh1.out.rd
  clear Oh1
  go_wp2_with fail
  refine (sar_r _ rh1 _ 1 _ Lh1 Rh1.out).mono ?_
  rintro e w43 ⟨rh2, Ah2, ch2, Eh2, rfl, Ch2, Oh2, hb⟩
  have Lh2 : rh2.length ≤ 4096 := by rw [Eh2.out, vz_length]; omega
  replace Rh1 := hide (Rh1.out.below hb)
  replace HB := hide (HB.out.trans (hb.mono HB.out.size))
  clear hb
  have Rh2 := hide Oh2.out.rd
  clear Oh2
  go_wp2_with fail
  refine (of_any 14 4 _ (by omega) (by omega) (by omega)).mono ?_
  rintro e w44 ⟨rh3, Ah3, ch3, Eh3, rfl, Ch3, Oh3, hb⟩
  have Lh3 : rh3.length ≤ 4096 := by rw [Eh3.out, vz_length]; omega
  replace Rh1 := hide (Rh1.out.below hb)
  replace Rh2 := hide (Rh2.out.below hb)
  replace HB := hide (HB.out.trans (hb.mono HB.out.size))
  clear hb
  have Rh3 := hide Oh3.out.rd
  clear Oh3
  go_wp2_with fail
  refine (same_yes _ _ _ _ _ _ _ Lh2 Rh2.out Rh3.out (by rw [Eh2.out, Eh3.out, Eh1.out]; decide)).mono ?_
  rintro e w45 ⟨rfl, hb⟩
  replace Rh1 := hide (Rh1.out.below hb)
  replace Rh2 := hide (Rh2.out.below hb)
  replace Rh3 := hide (Rh3.out.below hb)
  replace HB := hide (HB.out.trans (hb.mono HB.out.size))
  clear hb
  clear Rh1
  clear Rh2
  clear Rh3
  go_wp2_with fail
  go_ret
  exact ⟨rfl, HB.out⟩
end Go.Proofs.Ytkjiaflmaniplaa
