/-
  For every input that can be read, laws.FnExactValidWater returns true and leaves its arguments as they were: Rows.FnExactValidWaterSaid, no condition beside the row's own.
-/
import Derived.Test.YtfpfmfhhcgafcaaRows
import Derived.WalkKit
import Derived.ProofKit
import Derived.OpenShut
import Derived.ShutString
import Derived.ChangeOld
import Derived.Below
import Derived.Test.YtfpfmfhhcgafcaaOpen
import Derived.Test.YtfpfmfhhcgafcaaWFnExactValidWater
namespace Go.Proofs.Ytfpfmfhhcgafcaa.fnExactValidWater
open Go.ChangeShapes Go.WideShapes Go.ChangeAt Go.RowKit
open Go.ChangeMaps (open_string shut_string)
set_option linter.unusedVariables false

theorem own : ownKnob Try.prog.godebug = none := by kernel_rfl
theorem laidOut : laidOutB Try.prog = true := by kernel_rfl

set_option maxRecDepth 100000 in
theorem lifted (os : Os) (started : os.Started) (H : Type) (enc : TypeId × Value → H) :
    ReturnsInHanded {} Try.checked os 3 .any (Rows.fnExactValidWaterSpec.pre6 enc Try.prog Try.f3 Rows.fnExactValidWaterRow.domain false) (Rows.fnExactValidWaterSpec.post enc Try.prog Try.f3 false true false false) := by
  refine returnsInHanded_of_change (C := Try.checked) own started (by kernel_rfl) Try.func3
    (ChangeSpec.witness6 (enc := enc) (C := Try.checked) false ⟨#[], #[.agg #[.int .i64 0, .int .i64 0, .int .i64 0, .int .i64 0, .int .i64 0]], []⟩ 8 (by kernel_rfl) (by kernel_rfl) (by kernel_rfl) (by kernel_rfl)) ?_
  intro W base args ds gs before hval0 hW hcnd _
  have hval : ∀ (j : Nat) t v, Try.f3.params[j]? = some t → args[j]? = some v → Value.okWide Try.prog W .any base t v := hval0
  have hW' := hW
  obtain ⟨p, q, hA0, hV, rfl, hfz, hnd⟩ := hW
  have hA : DataW.TrodAll enc Try.prog W 0 (fun _ => true) true Try.f3.params.toList args.toList ds p := hA0
  rw [Try.params3] at hA hval
  obtain ⟨v0, vs0, d0, ds0, p0, q0, hargs, rfl, rfl, h0, r0⟩ := trodAll_cons hA
  obtain ⟨rfl, rfl, rfl⟩ := trodAll_nil r0
  obtain rfl : args = #[v0] := by cases args; simp_all
  obtain ⟨rfl, rfl⟩ := trodVars_none hV
  have k0 := h0
  have lt0 : ∀ x ∈ p0, x.block < W.heap.size := by obtain ⟨m, hm⟩ := k0; exact DataW.trod_lt m _ _ _ hm
  obtain ⟨cs0, ev0, sz0, g0⟩ := v_agg Try.underlying23 (by kernel_rfl) (show Try.prog.cellsOf 23 = 5 by kernel_rfl) (hval 0 23 v0 rfl rfl) h0
  obtain ⟨c0_0, c0_1, c0_2, c0_3, c0_4, ecs0⟩ := arr5 (sz0.trans rfl)
  subst ecs0
  subst ev0
  obtain ⟨u0_0, n0_0, y0_0, eu0_0, t0_0⟩ := g0 0 _ rfl
  obtain rfl : c0_0 = u0_0 := by simpa using eu0_0
  obtain ⟨a0_0, ea0_0, wa0_0⟩ := f_int Try.underlying2 t0_0
  subst ea0_0
  obtain ⟨u0_1, n0_1, y0_1, eu0_1, t0_1⟩ := g0 1 _ rfl
  obtain rfl : c0_1 = u0_1 := by simpa using eu0_1
  obtain ⟨a0_1, ea0_1, wa0_1⟩ := f_int Try.underlying2 t0_1
  subst ea0_1
  obtain ⟨u0_2, n0_2, y0_2, eu0_2, t0_2⟩ := g0 2 _ rfl
  obtain rfl : c0_2 = u0_2 := by simpa using eu0_2
  obtain ⟨a0_2, ea0_2, wa0_2⟩ := f_int Try.underlying2 t0_2
  subst ea0_2
  obtain ⟨u0_3, n0_3, y0_3, eu0_3, t0_3⟩ := g0 3 _ rfl
  obtain rfl : c0_3 = u0_3 := by simpa using eu0_3
  obtain ⟨a0_3, ea0_3, wa0_3⟩ := f_int Try.underlying2 t0_3
  subst ea0_3
  obtain ⟨u0_4, n0_4, y0_4, eu0_4, t0_4⟩ := g0 4 _ rfl
  obtain rfl : c0_4 = u0_4 := by simpa using eu0_4
  obtain ⟨a0_4, ea0_4, wa0_4⟩ := f_int Try.underlying2 t0_4
  subst ea0_4
  clear hA0 hval0
  refine (walk_FnExactValidWater a0_0 a0_1 a0_2 a0_3 a0_4 W wa0_0 wa0_1 wa0_2 wa0_3 wa0_4).mono fun e W' ⟨he, bel⟩ => ?_
  subst he
  exact ⟨_, rfl, _, _, _, [], _, [], hW', trodAll_mk1 (shut_bool Try.underlying4 _), (trodAll_cons_mk (Below.trod laidOut (by kernel_rfl) (of_decide_eq_true (by kernel_rfl)) k0 bel lt0) trodAll_mk0), rfl, bel.frame _, fun h => by cases h⟩

theorem over : Rows.fnExactValidWaterRow.holds Try.pinned (OpenSpec.ofChange Rows.fnExactValidWaterSpec) :=
  OpenClaim.holds_of_wide 3 Try.f3 rfl rfl rfl rfl rfl rfl rfl ⟨rfl, rfl, rfl, rfl, rfl⟩ rfl rfl rfl rfl rfl (by kernel_rfl) Try.func3 (by kernel_rfl)
    (of_decide_eq_true (by kernel_rfl)) (by unfold Func.isWrapper; first | (rw [if_pos (by decide +kernel)]; kernel_rfl) | (rw [if_neg (by decide +kernel)]; exact ⟨rfl, rfl⟩))
    (fun os started H enc _ => lifted os started H enc)

theorem proved : Rows.FnExactValidWaterSaid := over
#print axioms proved
end Go.Proofs.Ytfpfmfhhcgafcaa.fnExactValidWater
