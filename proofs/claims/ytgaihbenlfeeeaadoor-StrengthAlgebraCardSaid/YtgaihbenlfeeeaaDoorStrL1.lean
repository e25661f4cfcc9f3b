/-
  The walks of StrengthParseMatches, StrengthNames, StrengthDriveMatches.
-/
import Derived.Test.YtgaihbenlfeeeaaDoorStrW
import Derived.Test.YtgaihbenlfeeeaaDoorStrR
namespace Go.Proofs.YtgaihbenlfeeeaaDoor
open Go.RowKit
set_option linter.unusedSimpArgs false

theorem Names.over {w w' : World} (h : Hid (Names w)) (hb : Below w.heap.size w w') : Names w' := h.out.below hb
theorem parse_m (name : ByteArray) (w : World) (hN : Names w) : Calls Tryd.prog 29 #[.string name] w (Mk (.tuple #[.int .u8 (pS name), .bool (pV name), .bool (pK name)]) w) :=
  (parse_any name w hN).mono fun _ _ ⟨he, n, hw⟩ => ⟨he, by rw [hw]; exact below_drewN (Below.refl _ _) _⟩
theorem rparse_m (name : ByteArray) (w : World) : Calls Tryd.prog 30 #[.string name] w (Mk (.tuple #[.int .u8 (pS name), .bool (pV name), .bool (pK name)]) w) := rparse_any name w
theorem name_n (s : Int) (v : Bool) (w : World) (h0 : 0 ≤ s) (hN : Names w) : Calls Tryd.prog 27 #[.int .u8 s, .bool v] w (Mk (.string (nmF s v)) w) := name_m s v _ w h0 hN rfl

set_option maxHeartbeats 1000000 in
theorem StrengthParseMatches_walk (name : ByteArray) (w : World) (hN : Names w) : Calls Tryd.prog 5 #[.string name] w (Mk (.bool true) w) := by
  have HN := hide hN
  clear hN
  have hB : Below w.heap.size w w := Below.refl _ _
  go_enter Tryd.func5, Tryd.ntmps5
  go_wp2_with (first
    | (go_at_call 29; (with_reducible refine Calls.mono (parse_m _ _ ?_) ?_); (exact Names.over HN (by assumption)); rintro e wz ⟨rfl, hb⟩; have hs := hB.size; replace hB := Below.trans (B := w.heap.size) (a := w) (by (repeat (first | assumption | exact Below.refl _ _ | refine Below.setCell ?_ (by first | (simp; done) | omega | (simp; omega)) _ | refine Below.alloc ?_ (by first | (simp; done) | omega | (simp; omega)) _ | refine below_drewN ?_ _ | refine Below.drew ?_))) (hb.mono (by first | omega | (simp; omega))); clear hs; clear hb)
    | (go_at_call 30; (with_reducible refine Calls.mono (rparse_m _ _) ?_); rintro e wz ⟨rfl, hb⟩; have hs := hB.size; replace hB := Below.trans (B := w.heap.size) (a := w) (by (repeat (first | assumption | exact Below.refl _ _ | refine Below.setCell ?_ (by first | (simp; done) | omega | (simp; omega)) _ | refine Below.alloc ?_ (by first | (simp; done) | omega | (simp; omega)) _ | refine below_drewN ?_ _ | refine Below.drew ?_))) (hb.mono (by first | omega | (simp; omega))); clear hs; clear hb)
    | (go_at_call 13; (with_reducible refine Calls.mono (awake_any _ ?_) ?_); (exact Names.over HN (by assumption)); rintro e wz ⟨rfl, hb⟩; have hs := hB.size; replace hB := Below.trans (B := w.heap.size) (a := w) (by (repeat (first | assumption | exact Below.refl _ _ | refine Below.setCell ?_ (by first | (simp; done) | omega | (simp; omega)) _ | refine Below.alloc ?_ (by first | (simp; done) | omega | (simp; omega)) _ | refine below_drewN ?_ _ | refine Below.drew ?_))) (hb.mono (by first | omega | (simp; omega))); clear hs; clear hb))
  go_ret
  exact ⟨rfl, hB⟩

set_option maxHeartbeats 1000000 in
theorem StrengthDriveMatches_walk (b s t : Int) (w : World) (h0 : 0 ≤ s) (h1 : 0 ≤ t) (hN : Names w) : Calls Tryd.prog 4 #[.int .u8 b, .int .u8 s, .int .u8 t] w (Mk (.bool true) w) := by
  have HN := hide hN
  clear hN
  have hB : Below w.heap.size w w := Below.refl _ _
  go_enter Tryd.func4, Tryd.ntmps4
  go_wp2_with (first
    | (go_at_call 25; (with_reducible refine Calls.mono (drive_any _ _ _ _ (by assumption) (by assumption)) ?_); rintro e wz ⟨rfl, hb⟩; have hs := hB.size; replace hB := Below.trans (B := w.heap.size) (a := w) (by (repeat (first | assumption | exact Below.refl _ _ | refine Below.setCell ?_ (by first | (simp; done) | omega | (simp; omega)) _ | refine Below.alloc ?_ (by first | (simp; done) | omega | (simp; omega)) _ | refine below_drewN ?_ _ | refine Below.drew ?_))) (hb.mono (by first | omega | (simp; omega))); clear hs; clear hb)
    | (go_at_call 26; (with_reducible refine Calls.mono (rdrive_any _ _ _ _ (by assumption) (by assumption)) ?_); rintro e wz ⟨rfl, hb⟩; have hs := hB.size; replace hB := Below.trans (B := w.heap.size) (a := w) (by (repeat (first | assumption | exact Below.refl _ _ | refine Below.setCell ?_ (by first | (simp; done) | omega | (simp; omega)) _ | refine Below.alloc ?_ (by first | (simp; done) | omega | (simp; omega)) _ | refine below_drewN ?_ _ | refine Below.drew ?_))) (hb.mono (by first | omega | (simp; omega))); clear hs; clear hb)
    | (go_at_call 27; (with_reducible refine Calls.mono (name_n _ _ _ (by assumption) ?_) ?_); (exact Names.over HN (by assumption)); rintro e wz ⟨rfl, hb⟩; have hs := hB.size; replace hB := Below.trans (B := w.heap.size) (a := w) (by (repeat (first | assumption | exact Below.refl _ _ | refine Below.setCell ?_ (by first | (simp; done) | omega | (simp; omega)) _ | refine Below.alloc ?_ (by first | (simp; done) | omega | (simp; omega)) _ | refine below_drewN ?_ _ | refine Below.drew ?_))) (hb.mono (by first | omega | (simp; omega))); clear hs; clear hb)
    | (go_at_call 28; (with_reducible refine Calls.mono (rname_any _ _ _ (by assumption)) ?_); rintro e wz ⟨rfl, hb⟩; have hs := hB.size; replace hB := Below.trans (B := w.heap.size) (a := w) (by (repeat (first | assumption | exact Below.refl _ _ | refine Below.setCell ?_ (by first | (simp; done) | omega | (simp; omega)) _ | refine Below.alloc ?_ (by first | (simp; done) | omega | (simp; omega)) _ | refine below_drewN ?_ _ | refine Below.drew ?_))) (hb.mono (by first | omega | (simp; omega))); clear hs; clear hb)
    | (go_at_call 13; (with_reducible refine Calls.mono (awake_any _ ?_) ?_); (exact Names.over HN (by assumption)); rintro e wz ⟨rfl, hb⟩; have hs := hB.size; replace hB := Below.trans (B := w.heap.size) (a := w) (by (repeat (first | assumption | exact Below.refl _ _ | refine Below.setCell ?_ (by first | (simp; done) | omega | (simp; omega)) _ | refine Below.alloc ?_ (by first | (simp; done) | omega | (simp; omega)) _ | refine below_drewN ?_ _ | refine Below.drew ?_))) (hb.mono (by first | omega | (simp; omega))); clear hs; clear hb))
  go_ret
  exact ⟨rfl, hB⟩

theorem nmJ_inj : ∀ i : Fin 16, ∀ j : Fin 16, j.val < i.val → nmJ j.val ≠ nmJ i.val := by decide
theorem hgh_hgh (s : Int) : hgh (hgh s) = hgh s := by unfold hgh; omega
theorem tri_name (s : Int) (v : Bool) (h0 : 0 ≤ s) (x : Int) (hx : hgh s = x) : Tri (nmF s v) = .tuple #[.int .u8 x, .bool v, .bool true] := by
  subst hx
  have hb := hgh_bd h0
  obtain ⟨k, hk⟩ : ∃ k : Nat, hgh s = k := ⟨(hgh s).toNat, by omega⟩
  have e : nmF s v = nmF k v := by unfold nmF; rw [← hk, hgh_hgh]
  rw [e, hk]
  have hno : ∀ n, n < 16 → NoHit (nmJ n) n := fun n hn i hi => nmJ_inj ⟨n, hn⟩ ⟨i, by omega⟩ hi
  cases v
  · exact hit_0 (by rw [← nmJ_0]; exact hno _ (by omega)) rfl (by omega)
  · exact hit_1 (by rw [← nmJ_1]; exact hno _ (by omega)) rfl (by omega)
theorem parse_cases (name : ByteArray) : (∃ k : Nat, k < 8 ∧ ∃ v, Tri name = .tuple #[.int .u8 k, .bool v, .bool true] ∧ nmF k v = name) ∨ Tri name = .tuple #[.int .u8 0, .bool false, .bool false] := by
  cases h : prs name with
  | none => right; unfold Tri pS pV pK; rw [h]; rfl
  | some j =>
    left
    have hj : j < 16 ∧ nmJ j = name := by
      unfold prs at h
      have h1 := List.find?_some h
      have h2 := List.mem_of_find?_eq_some h
      exact ⟨by simpa using h2, by simpa using h1⟩
    refine ⟨j / 2, by omega, j % 2 == 1, ?_, hj.2⟩
    unfold Tri pS pV pK; rw [h]; rfl
theorem parse_e (name : ByteArray) (a : Int) (v k : Bool) (w : World) (hN : Names w) (h : Hid (Tri name = .tuple #[.int .u8 a, .bool v, .bool k])) : Calls Tryd.prog 29 #[.string name] w (Mk (.tuple #[.int .u8 a, .bool v, .bool k]) w) := by
  have h2 : Calls Tryd.prog 29 #[.string name] w (Mk (Tri name) w) := parse_m name w hN
  rw [h.out] at h2; exact h2

set_option maxHeartbeats 2000000 in
theorem StrengthNames_walk (s : Int) (v : Bool) (name : ByteArray) (w : World) (h0 : 0 ≤ s) (hN : Names w) : Calls Tryd.prog 12 #[.int .u8 s, .bool v, .string name] w (Mk (.bool true) w) := by
  have HN := hide hN
  clear hN
  have hB : Below w.heap.size w w := Below.refl _ _
  rcases parse_cases name with ⟨k, hk, d, hT, hnm⟩ | hT
  · have HT := hide hT
    have hq := str_t hnm
    have hk0 : (0 : Int) ≤ k := by omega
    have hk7 : (k : Int) ≤ 7 := by omega
    have hdk : decide ((k : Int) ≤ 7) = true := by simpa using hk7
    clear hT hnm
    by_cases h7 : 7 < s
    · have HS := hide (tri_name s v h0 7 (by unfold hgh; omega))
      go_enter Tryd.func12, Tryd.ntmps12
      go_wp2_with (first
    | (go_at_call 29; (with_reducible refine Calls.mono (parse_e name _ _ _ _ ?_ HT) ?_); (exact Names.over HN (by assumption)); rintro e wz ⟨rfl, hb⟩; have hs := hB.size; replace hB := Below.trans (B := w.heap.size) (a := w) (by (repeat (first | assumption | exact Below.refl _ _ | refine Below.setCell ?_ (by first | (simp; done) | omega | (simp; omega)) _ | refine Below.alloc ?_ (by first | (simp; done) | omega | (simp; omega)) _ | refine below_drewN ?_ _ | refine Below.drew ?_))) (hb.mono (by first | omega | (simp; omega))); clear hs; clear hb)
    | (go_at_call 29; (with_reducible refine Calls.mono (parse_e (nmF s v) _ _ _ _ ?_ HS) ?_); (exact Names.over HN (by assumption)); rintro e wz ⟨rfl, hb⟩; have hs := hB.size; replace hB := Below.trans (B := w.heap.size) (a := w) (by (repeat (first | assumption | exact Below.refl _ _ | refine Below.setCell ?_ (by first | (simp; done) | omega | (simp; omega)) _ | refine Below.alloc ?_ (by first | (simp; done) | omega | (simp; omega)) _ | refine below_drewN ?_ _ | refine Below.drew ?_))) (hb.mono (by first | omega | (simp; omega))); clear hs; clear hb)
    | (go_at_call 27; (with_reducible refine Calls.mono (name_n _ _ _ (by assumption) ?_) ?_); (exact Names.over HN (by assumption)); rintro e wz ⟨rfl, hb⟩; have hs := hB.size; replace hB := Below.trans (B := w.heap.size) (a := w) (by (repeat (first | assumption | exact Below.refl _ _ | refine Below.setCell ?_ (by first | (simp; done) | omega | (simp; omega)) _ | refine Below.alloc ?_ (by first | (simp; done) | omega | (simp; omega)) _ | refine below_drewN ?_ _ | refine Below.drew ?_))) (hb.mono (by first | omega | (simp; omega))); clear hs; clear hb)
    | (go_at_call 13; (with_reducible refine Calls.mono (awake_any _ ?_) ?_); (exact Names.over HN (by assumption)); rintro e wz ⟨rfl, hb⟩; have hs := hB.size; replace hB := Below.trans (B := w.heap.size) (a := w) (by (repeat (first | assumption | exact Below.refl _ _ | refine Below.setCell ?_ (by first | (simp; done) | omega | (simp; omega)) _ | refine Below.alloc ?_ (by first | (simp; done) | omega | (simp; omega)) _ | refine below_drewN ?_ _ | refine Below.drew ?_))) (hb.mono (by first | omega | (simp; omega))); clear hs; clear hb))
      go_ret
      exact ⟨rfl, hB⟩
    · have HS := hide (tri_name s v h0 s (by unfold hgh; omega))
      have h8 : s ≤ 7 := by omega
      clear h7
      go_enter Tryd.func12, Tryd.ntmps12
      go_wp2_with (first
    | (go_at_call 29; (with_reducible refine Calls.mono (parse_e name _ _ _ _ ?_ HT) ?_); (exact Names.over HN (by assumption)); rintro e wz ⟨rfl, hb⟩; have hs := hB.size; replace hB := Below.trans (B := w.heap.size) (a := w) (by (repeat (first | assumption | exact Below.refl _ _ | refine Below.setCell ?_ (by first | (simp; done) | omega | (simp; omega)) _ | refine Below.alloc ?_ (by first | (simp; done) | omega | (simp; omega)) _ | refine below_drewN ?_ _ | refine Below.drew ?_))) (hb.mono (by first | omega | (simp; omega))); clear hs; clear hb)
    | (go_at_call 29; (with_reducible refine Calls.mono (parse_e (nmF s v) _ _ _ _ ?_ HS) ?_); (exact Names.over HN (by assumption)); rintro e wz ⟨rfl, hb⟩; have hs := hB.size; replace hB := Below.trans (B := w.heap.size) (a := w) (by (repeat (first | assumption | exact Below.refl _ _ | refine Below.setCell ?_ (by first | (simp; done) | omega | (simp; omega)) _ | refine Below.alloc ?_ (by first | (simp; done) | omega | (simp; omega)) _ | refine below_drewN ?_ _ | refine Below.drew ?_))) (hb.mono (by first | omega | (simp; omega))); clear hs; clear hb)
    | (go_at_call 27; (with_reducible refine Calls.mono (name_n _ _ _ (by assumption) ?_) ?_); (exact Names.over HN (by assumption)); rintro e wz ⟨rfl, hb⟩; have hs := hB.size; replace hB := Below.trans (B := w.heap.size) (a := w) (by (repeat (first | assumption | exact Below.refl _ _ | refine Below.setCell ?_ (by first | (simp; done) | omega | (simp; omega)) _ | refine Below.alloc ?_ (by first | (simp; done) | omega | (simp; omega)) _ | refine below_drewN ?_ _ | refine Below.drew ?_))) (hb.mono (by first | omega | (simp; omega))); clear hs; clear hb)
    | (go_at_call 13; (with_reducible refine Calls.mono (awake_any _ ?_) ?_); (exact Names.over HN (by assumption)); rintro e wz ⟨rfl, hb⟩; have hs := hB.size; replace hB := Below.trans (B := w.heap.size) (a := w) (by (repeat (first | assumption | exact Below.refl _ _ | refine Below.setCell ?_ (by first | (simp; done) | omega | (simp; omega)) _ | refine Below.alloc ?_ (by first | (simp; done) | omega | (simp; omega)) _ | refine below_drewN ?_ _ | refine Below.drew ?_))) (hb.mono (by first | omega | (simp; omega))); clear hs; clear hb))
      all_goals
        go_ret
        exact ⟨rfl, hB⟩
  · have HT := hide hT
    clear hT
    by_cases h7 : 7 < s
    · have HS := hide (tri_name s v h0 7 (by unfold hgh; omega))
      go_enter Tryd.func12, Tryd.ntmps12
      go_wp2_with (first
    | (go_at_call 29; (with_reducible refine Calls.mono (parse_e name _ _ _ _ ?_ HT) ?_); (exact Names.over HN (by assumption)); rintro e wz ⟨rfl, hb⟩; have hs := hB.size; replace hB := Below.trans (B := w.heap.size) (a := w) (by (repeat (first | assumption | exact Below.refl _ _ | refine Below.setCell ?_ (by first | (simp; done) | omega | (simp; omega)) _ | refine Below.alloc ?_ (by first | (simp; done) | omega | (simp; omega)) _ | refine below_drewN ?_ _ | refine Below.drew ?_))) (hb.mono (by first | omega | (simp; omega))); clear hs; clear hb)
    | (go_at_call 29; (with_reducible refine Calls.mono (parse_e (nmF s v) _ _ _ _ ?_ HS) ?_); (exact Names.over HN (by assumption)); rintro e wz ⟨rfl, hb⟩; have hs := hB.size; replace hB := Below.trans (B := w.heap.size) (a := w) (by (repeat (first | assumption | exact Below.refl _ _ | refine Below.setCell ?_ (by first | (simp; done) | omega | (simp; omega)) _ | refine Below.alloc ?_ (by first | (simp; done) | omega | (simp; omega)) _ | refine below_drewN ?_ _ | refine Below.drew ?_))) (hb.mono (by first | omega | (simp; omega))); clear hs; clear hb)
    | (go_at_call 27; (with_reducible refine Calls.mono (name_n _ _ _ (by assumption) ?_) ?_); (exact Names.over HN (by assumption)); rintro e wz ⟨rfl, hb⟩; have hs := hB.size; replace hB := Below.trans (B := w.heap.size) (a := w) (by (repeat (first | assumption | exact Below.refl _ _ | refine Below.setCell ?_ (by first | (simp; done) | omega | (simp; omega)) _ | refine Below.alloc ?_ (by first | (simp; done) | omega | (simp; omega)) _ | refine below_drewN ?_ _ | refine Below.drew ?_))) (hb.mono (by first | omega | (simp; omega))); clear hs; clear hb)
    | (go_at_call 13; (with_reducible refine Calls.mono (awake_any _ ?_) ?_); (exact Names.over HN (by assumption)); rintro e wz ⟨rfl, hb⟩; have hs := hB.size; replace hB := Below.trans (B := w.heap.size) (a := w) (by (repeat (first | assumption | exact Below.refl _ _ | refine Below.setCell ?_ (by first | (simp; done) | omega | (simp; omega)) _ | refine Below.alloc ?_ (by first | (simp; done) | omega | (simp; omega)) _ | refine below_drewN ?_ _ | refine Below.drew ?_))) (hb.mono (by first | omega | (simp; omega))); clear hs; clear hb))
      all_goals
        go_ret
        exact ⟨rfl, hB⟩
    · have HS := hide (tri_name s v h0 s (by unfold hgh; omega))
      have h8 : s ≤ 7 := by omega
      clear h7
      go_enter Tryd.func12, Tryd.ntmps12
      go_wp2_with (first
    | (go_at_call 29; (with_reducible refine Calls.mono (parse_e name _ _ _ _ ?_ HT) ?_); (exact Names.over HN (by assumption)); rintro e wz ⟨rfl, hb⟩; have hs := hB.size; replace hB := Below.trans (B := w.heap.size) (a := w) (by (repeat (first | assumption | exact Below.refl _ _ | refine Below.setCell ?_ (by first | (simp; done) | omega | (simp; omega)) _ | refine Below.alloc ?_ (by first | (simp; done) | omega | (simp; omega)) _ | refine below_drewN ?_ _ | refine Below.drew ?_))) (hb.mono (by first | omega | (simp; omega))); clear hs; clear hb)
    | (go_at_call 29; (with_reducible refine Calls.mono (parse_e (nmF s v) _ _ _ _ ?_ HS) ?_); (exact Names.over HN (by assumption)); rintro e wz ⟨rfl, hb⟩; have hs := hB.size; replace hB := Below.trans (B := w.heap.size) (a := w) (by (repeat (first | assumption | exact Below.refl _ _ | refine Below.setCell ?_ (by first | (simp; done) | omega | (simp; omega)) _ | refine Below.alloc ?_ (by first | (simp; done) | omega | (simp; omega)) _ | refine below_drewN ?_ _ | refine Below.drew ?_))) (hb.mono (by first | omega | (simp; omega))); clear hs; clear hb)
    | (go_at_call 27; (with_reducible refine Calls.mono (name_n _ _ _ (by assumption) ?_) ?_); (exact Names.over HN (by assumption)); rintro e wz ⟨rfl, hb⟩; have hs := hB.size; replace hB := Below.trans (B := w.heap.size) (a := w) (by (repeat (first | assumption | exact Below.refl _ _ | refine Below.setCell ?_ (by first | (simp; done) | omega | (simp; omega)) _ | refine Below.alloc ?_ (by first | (simp; done) | omega | (simp; omega)) _ | refine below_drewN ?_ _ | refine Below.drew ?_))) (hb.mono (by first | omega | (simp; omega))); clear hs; clear hb)
    | (go_at_call 13; (with_reducible refine Calls.mono (awake_any _ ?_) ?_); (exact Names.over HN (by assumption)); rintro e wz ⟨rfl, hb⟩; have hs := hB.size; replace hB := Below.trans (B := w.heap.size) (a := w) (by (repeat (first | assumption | exact Below.refl _ _ | refine Below.setCell ?_ (by first | (simp; done) | omega | (simp; omega)) _ | refine Below.alloc ?_ (by first | (simp; done) | omega | (simp; omega)) _ | refine below_drewN ?_ _ | refine Below.drew ?_))) (hb.mono (by first | omega | (simp; omega))); clear hs; clear hb))
      all_goals
        go_ret
        exact ⟨rfl, hB⟩

end Go.Proofs.YtgaihbenlfeeeaaDoor
