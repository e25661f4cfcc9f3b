/-
  The plain mathematics of package bv: vectors as lists of bits, their values, and the laws of the chapter's properties. Nothing here speaks of the program.
-/
namespace Go.Proofs.Ytkjiaflmaniplaa

/-- Bit i of a vector; false beyond the end. -/
def bt (l : List Bool) (i : Nat) : Bool := l.getD i false
/-- The vector of n bits that a function gives. -/
def bl (n : Nat) (f : Nat → Bool) : List Bool := (List.range n).map f
/-- The value of the first n bits of a function. -/
def nf (f : Nat → Bool) : Nat → Nat
  | 0 => 0
  | n + 1 => nf f n + 2 ^ n * (f n).toNat
theorem nf_succ (f : Nat → Bool) (n : Nat) : nf f (n + 1) = nf f n + 2 ^ n * (f n).toNat := rfl
/-- The unsigned value of a vector. -/
def nv (l : List Bool) : Nat := nf (bt l) l.length
/-- Bit i of an integer, in two's complement. -/
def zb (z : Int) (i : Nat) : Bool := decide (z / 2 ^ i % 2 = 1)
/-- The vector of an integer. -/
def vz (w : Nat) (z : Int) : List Bool := bl w (zb z)

theorem bl_length (n : Nat) (f : Nat → Bool) : (bl n f).length = n := by simp [bl]
theorem vz_length (n : Nat) (z : Int) : (vz n z).length = n := bl_length _ _
theorem bt_bl (n : Nat) (f : Nat → Bool) (i : Nat) : bt (bl n f) i = (decide (i < n) && f i) := by
  unfold bt bl
  rw [List.getD_eq_getElem?_getD, List.getElem?_map]
  by_cases h : i < n
  · rw [List.getElem?_range h]; simp [h]
  · rw [List.getElem?_eq_none (by simpa using h)]; simp [h]
theorem bt_bl_lt {n : Nat} {f : Nat → Bool} {i : Nat} (h : i < n) : bt (bl n f) i = f i := by rw [bt_bl]; simp [h]
theorem bt_ge {l : List Bool} {i : Nat} (h : l.length ≤ i) : bt l i = false := by
  unfold bt; rw [List.getD_eq_getElem?_getD, List.getElem?_eq_none h]; rfl
theorem bt_get {l : List Bool} {i : Nat} (h : i < l.length) : bt l i = l[i] := by
  unfold bt; rw [List.getD_eq_getElem?_getD, List.getElem?_eq_getElem h]; rfl
theorem list_ext {l m : List Bool} (h : l.length = m.length) (k : ∀ i, i < l.length → bt l i = bt m i) : l = m := by
  apply List.ext_getElem h
  intro i h1 h2
  have := k i h1
  rw [bt_get h1, bt_get h2] at this
  exact this
theorem bl_bt (l : List Bool) : bl l.length (bt l) = l :=
  list_ext (bl_length _ _) fun i hi => by rw [bl_length] at hi; rw [bt_bl_lt hi]
theorem bl_congr {n : Nat} {f g : Nat → Bool} (h : ∀ i, i < n → f i = g i) : bl n f = bl n g :=
  list_ext (by rw [bl_length, bl_length]) fun i hi => by rw [bl_length] at hi; rw [bt_bl_lt hi, bt_bl_lt hi, h i hi]
theorem eq_bl {l : List Bool} {n : Nat} {f : Nat → Bool} (hl : l.length = n) (h : ∀ i, i < n → bt l i = f i) : l = bl n f :=
  list_ext (by rw [bl_length, hl]) fun i hi => by rw [bt_bl_lt (by omega)]; exact h i (by omega)

theorem toNat_01 (b : Bool) : b.toNat = 0 ∨ b.toNat = 1 := by cases b <;> simp
theorem nf_congr {f g : Nat → Bool} {n : Nat} (h : ∀ i, i < n → f i = g i) : nf f n = nf g n := by
  induction n with
  | zero => rfl
  | succ n ih => unfold nf; rw [ih fun i hi => h i (by omega), h n (by omega)]
theorem nf_lt (f : Nat → Bool) (n : Nat) : nf f n < 2 ^ n := by
  induction n with
  | zero => simp [nf]
  | succ n ih =>
    unfold nf
    rw [Nat.pow_succ]
    rcases toNat_01 (f n) with h | h <;> rw [h] <;> omega
theorem nf_inj {f g : Nat → Bool} {n : Nat} (h : nf f n = nf g n) : ∀ i, i < n → f i = g i := by
  induction n with
  | zero => intro i hi; omega
  | succ n ih =>
    unfold nf at h
    have a := nf_lt f n
    have b := nf_lt g n
    have e : (f n).toNat = (g n).toNat ∧ nf f n = nf g n := by
      rcases toNat_01 (f n) with h1 | h1 <;> rcases toNat_01 (g n) with h2 | h2 <;> rw [h1, h2] at h ⊢ <;> constructor <;> omega
    intro i hi
    by_cases hn : i = n
    · subst hn
      have := e.1
      cases hf : f i <;> cases hg : g i <;> simp_all
    · exact ih e.2 i (by omega)
theorem nv_lt (l : List Bool) : nv l < 2 ^ l.length := nf_lt _ _
theorem nv_bl (n : Nat) (f : Nat → Bool) : nv (bl n f) = nf f n := by
  unfold nv
  rw [bl_length]
  exact nf_congr fun i hi => bt_bl_lt hi
theorem nv_inj {l m : List Bool} (h : l.length = m.length) (k : nv l = nv m) : l = m := by
  unfold nv at k
  rw [← h] at k
  exact list_ext h (nf_inj k)

/-- The value of the bits of an integer. -/
theorem nf_zb (z : Int) (n : Nat) : (nf (zb z) n : Int) = z % 2 ^ n := by
  induction n with
  | zero => simp [nf, Int.emod_one]
  | succ n ih =>
    unfold nf
    rw [Int.natCast_add, ih, Int.natCast_mul]
    have h2 : (0 : Int) < 2 ^ n := Int.pow_pos (by decide)
    have e : ((zb z n).toNat : Int) = z / 2 ^ n % 2 := by
      unfold zb
      by_cases h : z / 2 ^ n % 2 = 1
      · simp [h]
      · have : z / 2 ^ n % 2 = 0 := by omega
        simp [this]
    rw [e]
    rw [Int.pow_succ]
    have p : ((2 ^ n : Nat) : Int) = (2 : Int) ^ n := by simp
    rw [p]
    have k1 := Int.emod_add_mul_ediv z (2 ^ n)
    have k2 := Int.emod_add_mul_ediv (z / 2 ^ n) 2
    have k3 : z / 2 ^ n / 2 = z / (2 ^ n * 2) := Int.ediv_ediv_of_nonneg (Int.le_of_lt h2)
    have k4 := Int.emod_add_mul_ediv z (2 ^ n * 2)
    rw [k3] at k2
    have k5 : (2 : Int) ^ n * (z / 2 ^ n % 2 + 2 * (z / (2 ^ n * 2))) = 2 ^ n * (z / 2 ^ n) := by rw [k2]
    rw [Int.mul_add, ← Int.mul_assoc] at k5
    omega
theorem nv_vz (w : Nat) (z : Int) : (nv (vz w z) : Int) = z % 2 ^ w := by
  unfold vz; rw [nv_bl]; exact nf_zb z w
theorem vz_eq {w : Nat} {y z : Int} (h : y % 2 ^ w = z % 2 ^ w) : vz w y = vz w z := by
  apply nv_inj (by rw [vz_length, vz_length])
  have a := nv_vz w y
  have b := nv_vz w z
  omega
theorem vz_iff {w : Nat} {y z : Int} : vz w y = vz w z ↔ y % 2 ^ w = z % 2 ^ w :=
  ⟨fun h => by rw [← nv_vz, h, nv_vz], vz_eq⟩
theorem vz_nv (l : List Bool) : vz l.length (nv l) = l := by
  apply nv_inj (vz_length _ _)
  have a := nv_vz l.length (nv l)
  have b := nv_lt l
  have d : ((2 ^ l.length : Nat) : Int) = (2 : Int) ^ l.length := by simp
  have c : ((nv l : Int)) % 2 ^ l.length = nv l := Int.emod_eq_of_lt (by omega) (by omega)
  omega
/-- A list is the vector of an integer if its value is that integer, modulo the width. -/
theorem eq_vz {l : List Bool} {w : Nat} {z : Int} (hl : l.length = w) (h : (nv l : Int) % 2 ^ w = z % 2 ^ w) : l = vz w z := by
  rw [← vz_eq h, ← hl, vz_nv]
theorem two_pos (w : Nat) : (0 : Int) < 2 ^ w := Int.pow_pos (by decide)
theorem two_cast (w : Nat) : ((2 ^ w : Nat) : Int) = (2 : Int) ^ w := by simp
theorem nv_vz_of {w : Nat} {z : Int} (h0 : 0 ≤ z) (h : z < 2 ^ w) : (nv (vz w z) : Int) = z := by
  rw [nv_vz, Int.emod_eq_of_lt h0 h]
theorem nv_vz_nat {w n : Nat} (h : n < 2 ^ w) : nv (vz w n) = n := by
  have := nv_vz_of (w := w) (z := n) (by omega) (by rw [← two_cast]; omega)
  omega

/-- The sign and the signed value. -/
def ng (l : List Bool) : Bool := decide (0 < l.length) && bt l (l.length - 1)
def sv (l : List Bool) : Int := if ng l then (nv l : Int) - 2 ^ l.length else nv l
theorem ng_iff (l : List Bool) : ng l = true ↔ 0 < l.length ∧ 2 ^ (l.length - 1) ≤ nv l := by
  unfold ng
  rcases Nat.eq_zero_or_pos l.length with h | h
  · simp [h]
  · obtain ⟨n, hn⟩ : ∃ n, l.length = n + 1 := ⟨l.length - 1, by omega⟩
    have e : nv l = nf (bt l) n + 2 ^ n * (bt l n).toNat := by unfold nv; rw [hn]; rfl
    have k := nf_lt (bt l) n
    rw [hn, e]
    simp only [Nat.add_sub_cancel, Nat.zero_lt_succ, decide_true, Bool.true_and, true_and]
    cases bt l n <;> simp <;> omega
theorem sv_mod (l : List Bool) : sv l % 2 ^ l.length = nv l % 2 ^ l.length := by
  unfold sv
  split
  · rw [Int.sub_emod, Int.emod_self, Int.sub_zero, Int.emod_emod]
  · rfl
theorem sv_nil {l : List Bool} (h : l.length = 0) : sv l = 0 := by
  have := nv_lt l
  rw [h] at this
  unfold sv ng
  rw [h]; simp at this ⊢; omega
theorem sv_bd {l : List Bool} {w : Nat} (h : l.length = w + 1) : -2 ^ w ≤ sv l ∧ sv l < 2 ^ w ∧ (ng l = true ↔ sv l < 0) := by
  have a := ng_iff l
  have b := nv_lt l
  have c : ((2 ^ w : Nat) : Int) = (2 : Int) ^ w := by simp
  have d : (2 : Int) ^ (w + 1) = 2 * 2 ^ w := by rw [Int.pow_succ]; omega
  have e : (2 : Nat) ^ (w + 1) = 2 * 2 ^ w := by rw [Nat.pow_succ]; omega
  rw [h] at a b
  simp only [Nat.add_sub_cancel] at a
  unfold sv
  rw [h]
  cases hn : ng l
  · have : ¬ (0 < w + 1 ∧ 2 ^ w ≤ nv l) := fun x => by rw [a.2 x] at hn; cases hn
    simp; omega
  · have := a.1 hn
    simp; omega
/-- The absolute value of the signed value. -/
def mg (l : List Bool) : Nat := (sv l).natAbs
theorem mg_lt (l : List Bool) : mg l < 2 ^ l.length ∨ l.length = 0 ∧ mg l = 0 := by
  rcases Nat.eq_zero_or_pos l.length with h | h
  · right; exact ⟨h, by unfold mg; rw [sv_nil h]; rfl⟩
  · left
    obtain ⟨n, hn⟩ : ∃ n, l.length = n + 1 := ⟨l.length - 1, by omega⟩
    have k := sv_bd hn
    rw [hn]
    have c : ((2 ^ n : Nat) : Int) = (2 : Int) ^ n := by simp
    have e : (2 : Nat) ^ (n + 1) = 2 * 2 ^ n := by rw [Nat.pow_succ]; omega
    unfold mg
    omega
theorem mg_lt' (l : List Bool) : mg l < 2 ^ l.length := by
  rcases mg_lt l with h | ⟨h, k⟩
  · exact h
  · rw [h, k]; decide

/-- The value of all bits of a function of which none from n on is set. -/
theorem nf_stop {f : Nat → Bool} {n : Nat} (h : ∀ i, n ≤ i → f i = false) (m : Nat) (hm : n ≤ m) : nf f m = nf f n := by
  induction m with
  | zero => have : n = 0 := by omega
            subst this; rfl
  | succ m ih =>
    by_cases e : n = m + 1
    · subst e; rfl
    · rw [nf_succ, ih (by omega), h m (by omega)]; simp
theorem nf_bt {l : List Bool} {m : Nat} (hm : l.length ≤ m) : nf (bt l) m = nv l := nf_stop (fun _ h => bt_ge h) m hm
theorem nf_mod (f : Nat → Bool) (n m : Nat) (h : n ≤ m) : nf f m % 2 ^ n = nf f n := by
  induction m with
  | zero => have : n = 0 := by omega
            subst this; rfl
  | succ m ih =>
    by_cases e : n = m + 1
    · subst e; exact Nat.mod_eq_of_lt (nf_lt _ _)
    · obtain ⟨k, rfl⟩ : ∃ k, m = n + k := ⟨m - n, by omega⟩
      rw [nf_succ, Nat.pow_add, Nat.mul_assoc, Nat.add_mul_mod_self_left]
      exact ih (by omega)
theorem nf_bt_mod (l : List Bool) (n : Nat) : nf (bt l) n = nv l % 2 ^ n := by
  rcases Nat.le_total l.length n with h | h
  · rw [nf_bt h, Nat.mod_eq_of_lt (Nat.lt_of_lt_of_le (nv_lt l) (Nat.pow_le_pow_right (by decide) h))]
  · exact (nf_mod (bt l) n l.length h).symm

end Go.Proofs.Ytkjiaflmaniplaa
