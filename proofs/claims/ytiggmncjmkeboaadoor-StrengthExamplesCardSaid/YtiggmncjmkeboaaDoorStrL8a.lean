/-
  What the walk of StrengthExamples asks of texts, and its callees at the very arguments.
-/
import Derived.Test.YtiggmncjmkeboaaDoorStrL1
import Derived.Test.YtiggmncjmkeboaaDoorStrK
namespace Go.Proofs.YtiggmncjmkeboaaDoor
open Go.RowKit
set_option linter.unusedSimpArgs false

def allS : Nat → ByteArray
  | 0 => ⟨#[]⟩
  | k + 1 => allS k ++ nmF k false ++ ⟨#[32]⟩ ++ nmF k true ++ ⟨#[32]⟩
theorem nmF_size (s : Int) (v : Bool) : (nmF s v).size ≤ 9 := by
  unfold nmF
  rw [ByteArray.size_append]
  have := nmB_size (hgh s).toNat
  have : (nmD v).size = 1 := by cases v <;> rfl
  omega
theorem allS_size : ∀ k, (allS k).size ≤ 20 * k
  | 0 => by show (0 : Nat) ≤ _; omega
  | k + 1 => by
    have h := allS_size k
    have h1 := nmF_size k false
    have h2 := nmF_size k true
    show (allS k ++ nmF k false ++ ⟨#[32]⟩ ++ nmF k true ++ ⟨#[32]⟩).size ≤ _
    simp only [ByteArray.size_append]
    have : (ByteArray.mk #[32]).size = 1 := rfl
    omega
theorem all_9 : allS 9 = ⟨#[104, 105, 103, 104, 122, 48, 32, 104, 105, 103, 104, 122, 49, 32, 115, 109, 97, 108, 108, 48, 32, 115, 109, 97, 108, 108, 49, 32, 109, 101, 100, 105, 117, 109, 48, 32, 109, 101, 100, 105, 117, 109, 49, 32, 119, 101, 97, 107, 48, 32, 119, 101, 97, 107, 49, 32, 108, 97, 114, 103, 101, 48, 32, 108, 97, 114, 103, 101, 49, 32, 112, 117, 108, 108, 48, 32, 112, 117, 108, 108, 49, 32, 115, 116, 114, 111, 110, 103, 48, 32, 115, 116, 114, 111, 110, 103, 49, 32, 115, 117, 112, 112, 108, 121, 48, 32, 115, 117, 112, 112, 108, 121, 49, 32, 115, 117, 112, 112, 108, 121, 48, 32, 115, 117, 112, 112, 108, 121, 49, 32]⟩ := by decide +kernel
theorem add_s (a b : ByteArray) (ha : a.size ≤ 1000) (hb : b.size ≤ 1000) (w : World) : (Op.stringOp .add a b).run Tryd.prog w = .ok (.string (a ++ b)) w := run_string_add_sum w _ _ (by omega)
theorem nohit_fin {name : ByteArray} {n : Nat} (h : ∀ i : Fin n, nmJ i.val ≠ name) : NoHit name n := fun i hi => h ⟨i, hi⟩
theorem tri_1 : Tri ⟨#[112, 117, 108, 108]⟩ = .tuple #[.int .u8 0, .bool false, .bool false] := miss (nohit_fin (by decide))
theorem tri_2 : Tri ⟨#[80, 117, 108, 108, 49]⟩ = .tuple #[.int .u8 0, .bool false, .bool false] := miss (nohit_fin (by decide))
theorem tri_3 : Tri ⟨#[112, 117, 108, 108, 50]⟩ = .tuple #[.int .u8 0, .bool false, .bool false] := miss (nohit_fin (by decide))
theorem tri_4 : Tri ⟨#[115, 117, 112, 112, 108, 121, 49]⟩ = .tuple #[.int .u8 7, .bool true, .bool true] := hit_1 (k := 7) (nohit_fin (by decide)) (by decide) (by decide)
theorem has_r (a b n : Int) (v : Bool) (w : World) (hv : mHas a b n = v) : Calls Tryd.prog 23 #[iv a b, .int .i64 n] w (Mk (.bool v) w) := by
  have h := has_any a b n w; rw [hv] at h; exact h
theorem normx_r (p q x y : Int) (w : World) (hx : nLo p q = x) (hy : nHi p q = y) : Calls Tryd.prog 18 #[iv p q] w (Mk (iv x y) w) := by
  have h := norm_any p q w; rw [hx, hy] at h; exact h
theorem validx_r (p q : Int) (v : Bool) (w : World) (hv : mVal p q = v) : Calls Tryd.prog 20 #[iv p q] w (Mk (.bool v) w) := by
  have h := valid_any p q w; rw [hv] at h; exact h
theorem combx_0 (a : Option Addr) (cap : Nat) (w : World) : Calls Tryd.prog 15 #[.slice a 0 cap] w (Mk (iv 0 0) w) := by
  go_enter Tryd.func15, Tryd.ntmps15
  go_wp2
  refine wp_loop_rounds 1 ?_
  rw [rounds_succ]
  go_wp2
  exact bodyPost_ret (v := iv 0 0) (by simp [results, Tryd.results15, go_sem]) rfl ⟨rfl, by (repeat (first | exact Below.refl _ _ | assumption | refine Below.setCell ?_ (by first | (simp; done) | (simp; omega) | omega) _ | refine Below.alloc ?_ (by first | (simp; done) | (simp; omega) | omega) _ | refine below_drewN ?_ _ | refine Below.drew ?_))⟩

theorem all_list : (allS 9).toList = [104, 105, 103, 104, 122, 48, 32, 104, 105, 103, 104, 122, 49, 32, 115, 109, 97, 108, 108, 48, 32, 115, 109, 97, 108, 108, 49, 32, 109, 101, 100, 105, 117, 109, 48, 32, 109, 101, 100, 105, 117, 109, 49, 32, 119, 101, 97, 107, 48, 32, 119, 101, 97, 107, 49, 32, 108, 97, 114, 103, 101, 48, 32, 108, 97, 114, 103, 101, 49, 32, 112, 117, 108, 108, 48, 32, 112, 117, 108, 108, 49, 32, 115, 116, 114, 111, 110, 103, 48, 32, 115, 116, 114, 111, 110, 103, 49, 32, 115, 117, 112, 112, 108, 121, 48, 32, 115, 117, 112, 112, 108, 121, 49, 32, 115, 117, 112, 112, 108, 121, 48, 32, 115, 117, 112, 112, 108, 121, 49, 32] := (congrArg ByteArray.toList all_9).trans (ByteArray.toList_mk _)

end Go.Proofs.YtiggmncjmkeboaaDoor
