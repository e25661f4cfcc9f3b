/-
  More of the plain mathematics of package bv: the ripple adder, comparison, shifts, powers, division.
-/
import Derived.Test.YtkjiaflmaniplaaBvM
namespace Go.Proofs.Ytkjiaflmaniplaa

/-- The carry into bit i. -/
def cy (c : Bool) (f g : Nat → Bool) : Nat → Bool
  | 0 => c
  | i + 1 => (f i && g i) || ((f i != g i) && cy c f g i)
/-- Bit i of the sum. -/
def sb (c : Bool) (f g : Nat → Bool) (i : Nat) : Bool := f i != (g i != cy c f g i)
theorem nf_sb (c : Bool) (f g : Nat → Bool) (n : Nat) : nf (sb c f g) n + 2 ^ n * (cy c f g n).toNat = nf f n + nf g n + c.toNat := by
  induction n with
  | zero => simp [nf, cy]
  | succ n ih =>
    have e : (sb c f g n).toNat + 2 * (cy c f g (n + 1)).toNat = (f n).toNat + (g n).toNat + (cy c f g n).toNat := by
      unfold sb
      show _ + 2 * ((f n && g n) || ((f n != g n) && cy c f g n)).toNat = _
      cases f n <;> cases g n <;> cases cy c f g n <;> rfl
    rw [nf_succ, nf_succ, nf_succ, Nat.pow_succ]
    have k := congrArg (2 ^ n * ·) e
    simp only [Nat.mul_add] at k
    rw [Nat.mul_assoc (2 ^ n) 2]
    omega
theorem nf_not (g : Nat → Bool) (n : Nat) : nf (fun i => !g i) n + nf g n + 1 = 2 ^ n := by
  induction n with
  | zero => simp [nf]
  | succ n ih =>
    rw [nf_succ, nf_succ, Nat.pow_succ]
    cases g n <;> simp <;> omega
theorem emod_of_nat {a b m : Nat} {y z : Int} (h : (a : Int) = y) (k : (b : Int) = z) (e : a % m = b % m) : y % (m : Int) = z % (m : Int) := by
  subst h; subst k; exact_mod_cast e

theorem add_spec (a b : List Bool) : bl a.length (sb false (bt a) (bt b)) = vz a.length ((nv a : Int) + nv b) := by
  refine eq_vz (bl_length _ _) ?_
  rw [nv_bl]
  have h := nf_sb false (bt a) (bt b) a.length
  rw [nf_bt_mod b] at h
  have h1 : nf (bt a) a.length = nv a := rfl
  rw [h1] at h
  simp only [Bool.toNat_false, Nat.add_zero] at h
  rw [← two_cast]
  generalize 2 ^ a.length = m at *
  have k : nf (sb false (bt a) (bt b)) a.length % m = (nv a + nv b) % m := by
    have := congrArg (· % m) h
    simp only [Nat.add_mul_mod_self_left] at this
    rw [this, Nat.add_mod_mod]
  exact emod_of_nat rfl (by simp) k
theorem sub_spec (a b : List Bool) : bl a.length (sb true (bt a) (fun i => !bt b i)) = vz a.length ((nv a : Int) - nv b) := by
  refine eq_vz (bl_length _ _) ?_
  rw [nv_bl]
  have h := nf_sb true (bt a) (fun i => !bt b i) a.length
  have k := nf_not (bt b) a.length
  rw [nf_bt_mod b] at k
  have h1 : nf (bt a) a.length = nv a := rfl
  rw [h1] at h
  simp only [Bool.toNat_true] at h
  have d := Nat.mod_add_div (nv b) (2 ^ a.length)
  rw [← two_cast]
  generalize 2 ^ a.length = m at *
  generalize nf (fun i => !bt b i) a.length = x at *
  generalize nf (sb true (bt a) fun i => !bt b i) a.length = s at *
  generalize (cy true (bt a) (fun i => !bt b i) a.length).toNat = c at *
  have e : (s : Int) = (nv a : Int) - nv b + (m : Int) * (1 - (c : Int) + (nv b / m : Nat)) := by
    have h' : (s : Int) + m * c = nv a + x + 1 := by exact_mod_cast h
    have k' : (x : Int) + (nv b % m : Nat) + 1 = m := by exact_mod_cast k
    have d' : ((nv b % m : Nat) : Int) + m * (nv b / m : Nat) = nv b := by exact_mod_cast d
    rw [Int.mul_add, Int.mul_sub, Int.mul_one]
    omega
  rw [e, Int.add_mul_emod_self_left]

/-- Comparison. -/
def cmp (x y : Int) : Int := if x < y then -1 else if y < x then 1 else 0
def og (f g : Nat → Bool) : Nat → Int
  | 0 => 0
  | i + 1 => if f i && !g i then 1 else if g i && !f i then -1 else og f g i
theorem og_spec (f g : Nat → Bool) (n : Nat) : og f g n = cmp (nf f n) (nf g n) := by
  induction n with
  | zero => simp [og, nf, cmp]
  | succ n ih =>
    have a := nf_lt f n
    have b := nf_lt g n
    unfold og
    rw [ih, nf_succ, nf_succ]
    unfold cmp
    generalize 2 ^ n = m at *
    cases f n <;> cases g n <;> simp <;> (try split) <;> (try split) <;> (try omega) <;> (repeat (split)) <;> omega
theorem cmp_eq_zero {x y : Int} : cmp x y = 0 ↔ x = y := by unfold cmp; split <;> (try split) <;> simp <;> omega
theorem cmp_lt {x y : Int} : cmp x y < 0 ↔ x < y := by unfold cmp; split <;> (try split) <;> simp <;> omega
theorem cmp_nn {x y : Int} : 0 ≤ cmp x y ↔ y ≤ x := by unfold cmp; split <;> (try split) <;> simp <;> omega

/-- A vector that goes on with a bit. -/
def ex (l : List Bool) (b : Bool) (i : Nat) : Bool := if i < l.length then bt l i else b
theorem ex_false (l : List Bool) : ex l false = bt l := by
  funext i; unfold ex; split
  · rfl
  · rw [bt_ge (by omega)]
theorem nf_ex_true (l : List Bool) (n : Nat) (h : l.length ≤ n) : (nf (ex l true) n : Int) = 2 ^ n - 2 ^ l.length + nv l := by
  induction n with
  | zero => have : l.length = 0 := by omega
            have k := nv_lt l
            rw [this] at k ⊢
            simp [nf] at k ⊢; omega
  | succ n ih =>
    by_cases e : l.length = n + 1
    · rw [← e]
      have : nf (ex l true) l.length = nv l := nf_congr fun i hi => by unfold ex; rw [if_pos hi]
      rw [this]; omega
    · rw [nf_succ]
      have : ex l true n = true := by unfold ex; rw [if_neg (by omega)]
      rw [this, Int.natCast_add, ih (by omega), Int.pow_succ]
      have p : ((2 ^ n * true.toNat : Nat) : Int) = 2 ^ n := by simp
      rw [p]; omega
theorem ucmp_spec (a b : List Bool) (n : Nat) (h : a.length ≤ n) (k : b.length ≤ n) : og (ex a false) (ex b false) n = cmp (nv a) (nv b) := by
  rw [og_spec, ex_false, ex_false, nf_bt h, nf_bt k]
theorem scmp_spec (a b : List Bool) (n : Nat) (h : a.length ≤ n) (k : b.length ≤ n) (e : ng a = ng b) : og (ex a (ng a)) (ex b (ng b)) n = cmp (sv a) (sv b) := by
  rw [og_spec]
  unfold sv
  rw [← e]
  cases ng a
  · rw [ex_false, ex_false, nf_bt h, nf_bt k]; simp
  · rw [nf_ex_true a n h, nf_ex_true b n k]; simp; unfold cmp; split <;> (try split) <;> (try split) <;> (try split) <;> omega
theorem sv_neg {l : List Bool} (h : ng l = true) : sv l < 0 := by
  have k := (ng_iff l).1 h
  obtain ⟨n, hn⟩ : ∃ n, l.length = n + 1 := ⟨l.length - 1, by omega⟩
  exact (sv_bd hn).2.2.1 h
theorem sv_nn {l : List Bool} (h : ng l = false) : 0 ≤ sv l := by unfold sv; rw [h]; simp
theorem scmp_lt {a b : List Bool} (h : ng a = true) (k : ng b = false) : cmp (sv a) (sv b) = -1 := by
  have := sv_neg h; have := sv_nn k; unfold cmp; rw [if_pos (by omega)]
theorem scmp_gt {a b : List Bool} (h : ng a = false) (k : ng b = true) : cmp (sv a) (sv b) = 1 := by
  have := sv_nn h; have := sv_neg k; unfold cmp; rw [if_neg (by omega), if_pos (by omega)]

end Go.Proofs.Ytkjiaflmaniplaa
