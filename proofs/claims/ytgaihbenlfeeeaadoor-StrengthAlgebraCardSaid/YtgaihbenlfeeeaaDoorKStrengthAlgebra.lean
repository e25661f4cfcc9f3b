/-
  StrengthAlgebra holds: Combine does not depend on the order or the grouping of its arguments, and the interval 0 to 0 is neutral. Condition: the names of strengths read as the program's text lays them (tied by the card).
-/
import Derived.Test.YtgaihbenlfeeeaaDoorStrT
import Derived.Test.YtgaihbenlfeeeaaDoorStrL5
import Derived.Test.YtgaihbenlfeeeaaDoorPost
import Derived.Test.YtgaihbenlfeeeaaDoorRows
import Derived.Test.YtgaihbenlfeeeaaDoorTie
import Derived.Test.YtgaihbenlfeeeaaDoorCards
import Derived.SevenTiedAt
import Derived.ProofKit
import Derived.LaidMore
import Derived.OpenShut
import Derived.Stop.Joined
import Derived.Stop.LaidErr
import Derived.Lib.SmallJoins
import Derived.ChangeMaps5
import Derived.Deep.Slices
import Derived.Deep.Fields
namespace Go.Proofs.YtgaihbenlfeeeaaDoor.lawStrengthAlgebra
open Go Go.ChangeShapes Go.WideShapes Go.ChangeAt Go.WideMaps Go.WideElems Go.RowKit Go.Joins Go.Deep Go.ChangeMaps
set_option linter.unusedVariables false
theorem own : ownKnob Tryd.prog.godebug = none := by kernel_rfl
theorem laidOut : laidOutB Tryd.prog = true := by kernel_rfl
theorem u8_nn {a : Int} (h : (Lit.int .u8 a).wf = true) : 0 ≤ a := by
  simp only [Lit.wf, Bool.and_eq_true] at h
  exact of_decide_eq_true h.1
abbrev laidL : List (String × DataW Unit) := [("netlab/strength.names", Rows.laid_netlab_strength_names)]
theorem door_met (os : Os) (args : Array Value) : laidMetH Tryd.prog laidL ((World.doorLaid Tryd.prog 14 os).forCall (fun _ _ => 0) ⟨#[], args, []⟩).memory :=
  laidMetH_of_parts3 (fuel := 8) (laidMet_of_run' 8 (by kernel_rfl) (by kernel_rfl)) (by kernel_rfl) (by kernel_rfl)
set_option maxRecDepth 100000 in
theorem lifted (os : Os) (started : os.Started) (H : Type) (enc : TypeId × Value → H) :
    ReturnsInHanded {} Tryd.checked os 8 .any (fun w args => (Rows.strengthAlgebraSpec.pre enc Tryd.prog Tryd.f8 [] false w args ∧ laidMetH Tryd.prog laidL w) ∧ sizedMet enc Tryd.prog Tryd.f8 (OpenSpec.ofChange Rows.strengthAlgebraSpec) false w args)
      (Rows.strengthAlgebraSpec.post enc Tryd.prog Tryd.f8 false true false false) := by
  refine returnsInHanded_of_change_and (C := Tryd.checked) (X := fun w _ => laidMetH Tryd.prog laidL w) (fun _ _ _ hh h => h.of_heap hh) own started (by kernel_rfl) Tryd.func8
    (ChangeSpec.witness_shaped (enc := enc) (C := Tryd.checked) (os := os) (X := fun w _ => laidMetH Tryd.prog laidL w) false (World.doorLaid Tryd.prog 14 os) #[.agg #[.int .i8 0, .int .i8 0], .agg #[.int .i8 0, .int .i8 0], .agg #[.int .i8 0, .int .i8 0]] 8 rfl (World.shaped_of_RefB (by kernel_rfl) (by kernel_rfl)) (by kernel_rfl) (by kernel_rfl) (by kernel_rfl) (door_met os _)) ?_
  intro W base args ds gs before hval0 hW _ hsz hL _
  have hval : ∀ (j : Nat) t v, Tryd.f8.params[j]? = some t → args[j]? = some v → Value.okWide Tryd.prog W .any base t v := hval0
  have hW' := hW
  obtain ⟨p, q, hA0, hV, rfl, hfz, hnd⟩ := hW
  have hA : DataW.TrodAll enc Tryd.prog W 0 (fun _ => true) true Tryd.f8.params.toList args.toList ds p := hA0
  rw [Tryd.params8] at hA hval
  obtain ⟨v0, vs0, d0, ds0, p0, q0, hargs, rfl, rfl, h0, r0⟩ := trodAll_cons hA
  obtain ⟨v1, vs1, d1, ds1, p1, q1, rfl, rfl, rfl, h1, r1⟩ := trodAll_cons r0
  obtain ⟨v2, vs2, d2, ds2, p2, q2, rfl, rfl, rfl, h2, r2⟩ := trodAll_cons r1
  obtain ⟨rfl, rfl, rfl⟩ := trodAll_nil r2
  obtain rfl : args = #[v0, v1, v2] := by cases args; simp_all
  obtain ⟨rfl, rfl⟩ := trodVars_none hV
  obtain ⟨x0, y0, z0, u0, n0, rfl, rfl, rfl, f0, g0⟩ := open_agg2 Tryd.underlying34 (by kernel_rfl) (by kernel_rfl) (hval 0 34 v0 rfl rfl) h0
  obtain ⟨a0, ex0, -, wa0⟩ := DataW.trod_int (k := .i8) (by kernel_rfl) f0
  obtain rfl : x0 = .int .i8 a0 := by simpa using ex0
  obtain ⟨a1, ey0, -, wa1⟩ := DataW.trod_int (k := .i8) (by kernel_rfl) g0
  obtain rfl : y0 = .int .i8 a1 := by simpa using ey0
  obtain ⟨x1, y1, z1, u1, n1, rfl, rfl, rfl, f1, g1⟩ := open_agg2 Tryd.underlying34 (by kernel_rfl) (by kernel_rfl) (hval 1 34 v1 rfl rfl) h1
  obtain ⟨b0, ex1, -, wb0⟩ := DataW.trod_int (k := .i8) (by kernel_rfl) f1
  obtain rfl : x1 = .int .i8 b0 := by simpa using ex1
  obtain ⟨b1, ey1, -, wb1⟩ := DataW.trod_int (k := .i8) (by kernel_rfl) g1
  obtain rfl : y1 = .int .i8 b1 := by simpa using ey1
  obtain ⟨x2, y2, z2, u2, n2, rfl, rfl, rfl, f2, g2⟩ := open_agg2 Tryd.underlying34 (by kernel_rfl) (by kernel_rfl) (hval 2 34 v2 rfl rfl) h2
  obtain ⟨c0, ex2, -, wc0⟩ := DataW.trod_int (k := .i8) (by kernel_rfl) f2
  obtain rfl : x2 = .int .i8 c0 := by simpa using ex2
  obtain ⟨c1, ey2, -, wc1⟩ := DataW.trod_int (k := .i8) (by kernel_rfl) g2
  obtain rfl : y2 = .int .i8 c1 := by simpa using ey2
  rw [MakeChecks.laidMetH_plain _ _ _ (by kernel_rfl)] at hL
  have t0 := tab_names hL
  clear hA0 hval0
  refine (StrengthAlgebra_walk a0 a1 b0 b1 c0 c1 W (by assumption)).mono fun e W' ⟨he, hb⟩ => ?_
  subst he
  exact ⟨_, rfl, law_post laidOut (by kernel_rfl) Tryd.underlying4 (by kernel_rfl) rfl hW' rfl rfl rfl hb⟩

theorem over : Rows.StrengthAlgebraSaid :=
  OpenClaim.holds_of_wide 8 Tryd.f8 rfl rfl rfl rfl rfl rfl rfl ⟨rfl, rfl, rfl, rfl, rfl⟩ rfl rfl rfl rfl rfl (by kernel_rfl) Tryd.func8 (by kernel_rfl)
    (of_decide_eq_true (by kernel_rfl)) (by unfold Func.isWrapper; first | (rw [if_pos (by decide +kernel)]; kernel_rfl) | (rw [if_neg (by decide +kernel)]; exact ⟨rfl, rfl⟩))
    (fun os started H enc _ => lifted os started H enc)
theorem proved : Rows.StrengthAlgebraCardSaid :=
  Claim7.holds_tied_plain_at .later [] [.data] true (true, "b70bf82ef4aaac1cb74892c766b4b2587c53ece6a7e20503eff2cbff1e695daf") false
    over (fun _ h => by cases h) (by kernel_rfl) (fun _ h => by cases h) strengthAlgebra_row_tie rfl ⟨rfl, rfl⟩ (by kernel_rfl) rfl
    (fun f fn hf hfn => by
      obtain rfl : f = 8 := Option.some.inj ((show Tryd.prog.funcNamed "netlab/netlablaw02.StrengthAlgebra" = some 8 by kernel_rfl).symm.trans hf) |>.symm
      obtain rfl : fn = Tryd.f8 := (Option.some.inj (Tryd.func8.symm.trans hfn)).symm
      exact ⟨by kernel_rfl, fun j t ht => by
        rw [Tryd.params8] at ht
        have hm : t ∈ [34, 34, 34] := by simpa using Array.mem_of_getElem? ht
        have hall : ([34, 34, 34].all fun u => !Tryd.prog.wantsStandIn u) = true := by kernel_rfl
        exact (show Tryd.prog.wantsStandIn t = false by simpa using List.all_eq_true.1 hall t hm)⟩)
    (by kernel_rfl)
#print axioms proved
end Go.Proofs.YtgaihbenlfeeeaaDoor.lawStrengthAlgebra
