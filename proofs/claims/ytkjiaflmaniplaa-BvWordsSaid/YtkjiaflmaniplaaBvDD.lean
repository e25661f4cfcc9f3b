/-
  Facts of division: what the quotient and the remainder give back; the row of a divisor that is extended by its sign.
-/
import Derived.Test.YtkjiaflmaniplaaBvCC
namespace Go.Proofs.Ytkjiaflmaniplaa
open Go.RowKit
set_option linter.unusedSimpArgs false
set_option linter.unusedVariables false

theorem div_back (a b : List Bool) : vz a.length ((nv (vz a.length ((nv (vz a.length ((nv a / nv b : Nat) : Int)) : Int) * nv b)) : Int) + nv (vz a.length ((nv a % nv b : Nat) : Int))) = a := by
  rw [vz_mull, vz_addl, vz_addr]
  have h : ((nv a / nv b : Nat) : Int) * (nv b : Int) + ((nv a % nv b : Nat) : Int) = nv a := by
    have := Nat.div_add_mod' (nv a) (nv b)
    exact_mod_cast this
  rw [h, vz_nv]
theorem rem_lt {a b : List Bool} (h : 0 < nv b) : ((nv (vz a.length ((nv a % nv b : Nat) : Int)) : Nat) : Int) < ((nv b : Nat) : Int) := by
  rw [nv_vz_nat (Nat.lt_of_le_of_lt (Nat.mod_le _ _) (nv_lt a))]
  have := Nat.mod_lt (nv a) h
  omega
theorem vz_sv (a : List Bool) : vz a.length (sv a) = a := (vz_eq (sv_mod a)).trans (vz_nv a)
theorem sdiv_back (a b : List Bool) : vz a.length ((nv (vz a.length ((nv (vz a.length ((sv a).tdiv (sv b))) : Int) * nv (vz a.length (sv b)))) : Int) + nv (vz a.length ((sv a).tmod (sv b)))) = a := by
  rw [vz_mull, vz_mulr, vz_addl, vz_addr, Int.tdiv_mul_add_tmod, vz_sv]
theorem tmod_bd (x y : Int) : (0 ≤ x → 0 ≤ x.tmod y ∧ x.tmod y ≤ x) ∧ (x ≤ 0 → x.tmod y ≤ 0 ∧ x ≤ x.tmod y) := by
  have h : (x.tmod y).natAbs ≤ x.natAbs := by rw [Int.natAbs_tmod]; exact Nat.mod_le _ _
  refine ⟨fun hx => ?_, fun hx => ?_⟩
  · have := Int.tmod_nonneg y hx
    omega
  · have k := Int.tmod_nonneg y (a := -x) (by omega)
    rw [Int.neg_tmod] at k
    omega
theorem sv_tm (a b : List Bool) : sv (vz a.length ((sv a).tmod (sv b))) = (sv a).tmod (sv b) := by
  have k := tmod_bd (sv a) (sv b)
  rcases Nat.eq_zero_or_pos a.length with h | h
  · have h0 := sv_nil h
    rw [h0] at k ⊢
    rw [sv_nil (by rw [vz_length]; exact h)]
    omega
  · obtain ⟨w, hw⟩ : ∃ w, a.length = w + 1 := ⟨a.length - 1, by omega⟩
    have p := sv_bd hw
    rw [hw]
    apply sv_vz
    · generalize (2 : Int) ^ w = m at *
      omega
    · generalize (2 : Int) ^ w = m at *
      omega
theorem tm_lt {a b : List Bool} (h : 0 < nv b) : ((mg (vz a.length ((sv a).tmod (sv b))) : Nat) : Int) < ((mg b : Nat) : Int) := by
  have hb : 0 < mg b := by
    have := mg_zero b
    omega
  have : mg (vz a.length ((sv a).tmod (sv b))) = mg a % mg b := by unfold mg; rw [sv_tm, Int.natAbs_tmod]
  rw [this]
  have := Nat.mod_lt (mg a) hb
  omega
theorem ng_tm {a b : List Bool} (h : ¬ nv (vz a.length ((sv a).tmod (sv b))) = 0) : ng (vz a.length ((sv a).tmod (sv b))) = ng a := by
  have h1 : ¬ mg (vz a.length ((sv a).tmod (sv b))) = 0 := fun e => h ((mg_zero _).mp e)
  have h2 := sv_tm a b
  have k := tmod_bd (sv a) (sv b)
  unfold mg at h1
  cases hx : ng a <;> cases hy : ng (vz a.length ((sv a).tmod (sv b)))
  · rfl
  · have := sv_neg hy; have := sv_nn hx; omega
  · have := sv_nn hy; have := sv_neg hx; omega
  · rfl
/-- The divisor that is being extended by its sign. -/
def Dk (b : List Bool) (k j : Nat) : Bool := if j < k then ex b (ng b) j else bt b j
structure DR (wq : World) (A : Option Addr) (n : Nat) (b : List Bool) (k : Nat) (wr : World) : Prop where
  kb : b.length ≤ k
  kn : k ≤ n ∨ k = b.length
  row : 0 < n → ∃ g, A = some ⟨g, 0, none⟩ ∧ wq.heap.size ≤ g ∧ RowF wr g n (Dk b k)
  bel : Below wq.heap.size wq wr
theorem DR.start {wq wr : World} {A : Option Addr} {n : Nat} {b d : List Bool} (h : Own wq.heap.size wr A d) (e : d = vz n (nv b)) (hb : Below wq.heap.size wq wr) : DR wq A n b b.length wr where
  kb := Nat.le_refl _
  kn := Or.inr rfl
  row := fun hn => by
    have hl : d.length = n := by rw [e, vz_length]
    obtain ⟨g, hA, hg, hr⟩ := h (by omega)
    refine ⟨g, hA, hg, ?_⟩
    rw [hl] at hr
    refine hr.congr fun j hj => ?_
    rw [e, vz, bt_bl_lt hj, zb_nv]
    unfold Dk ex
    split <;> rfl
  bel := hb
theorem DR.next {wq wr : World} {g n k : Nat} {b : List Bool} (h : DR wq (some ⟨g, 0, none⟩) n b k wr) (hk : k < n) (hg : wq.heap.size ≤ g) : DR wq (some ⟨g, 0, none⟩) n b (k + 1) (wr.setCell ⟨g, k, none⟩ (.bool (ng b))) where
  kb := by have := h.kb; omega
  kn := Or.inl hk
  row := fun hn => by
    obtain ⟨g', e, _, hr⟩ := h.row hn
    cases e
    refine ⟨g, rfl, hg, (hr.set_ k (ng b)).congr fun j hj => ?_⟩
    unfold Dk
    have := h.kb
    by_cases h1 : j = k
    · subst h1; rw [if_pos rfl, if_pos (by omega), ex_far _ _ (by omega)]
    · rw [if_neg h1]
      by_cases h2 : j < k
      · rw [if_pos h2, if_pos (by omega)]
      · rw [if_neg h2, if_neg (by omega)]
  bel := h.bel.setCell hg _
theorem DR.drew {wq wr : World} {A : Option Addr} {n k : Nat} {b : List Bool} (h : DR wq A n b k wr) : DR wq A n b k wr.drew := ⟨h.kb, h.kn, fun hn => (h.row hn).imp fun g ⟨h1, h2, h3⟩ => ⟨h1, h2, h3.drew⟩, h.bel.drew⟩
theorem DR.done {wq wr : World} {A : Option Addr} {n k : Nat} {b : List Bool} (h : DR wq A n b k wr) (hk : ¬ k < n) : Own wq.heap.size wr A (vz n (sv b)) := fun hn => by
  rw [vz_length] at hn ⊢
  obtain ⟨g, hA, hg, hr⟩ := h.row hn
  refine ⟨g, hA, hg, hr.congr fun j hj => ?_⟩
  rw [vz, bt_bl_lt hj, zb_sv]
  unfold Dk
  rw [if_pos (by omega)]
end Go.Proofs.Ytkjiaflmaniplaa
