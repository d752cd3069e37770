/-
  For every input that can be read, laws.FnExactWorstDays returns true and leaves its arguments as they were: Rows.FnExactWorstDaysSaid, no condition beside the row's own.
-/
import Derived.Test.YtfpfmfhhcgafcaaRows
import Derived.WalkKit
import Derived.ProofKit
import Derived.OpenShut
import Derived.ShutString
import Derived.ChangeOld
import Derived.Below
import Derived.Test.YtfpfmfhhcgafcaaOpen
import Derived.Test.YtfpfmfhhcgafcaaWFnExactWorstDays
namespace Go.Proofs.Ytfpfmfhhcgafcaa.fnExactWorstDays
open Go.ChangeShapes Go.WideShapes Go.ChangeAt Go.RowKit
open Go.ChangeMaps (open_string shut_string)
set_option linter.unusedVariables false

theorem own : ownKnob Try.prog.godebug = none := by kernel_rfl
theorem laidOut : laidOutB Try.prog = true := by kernel_rfl

set_option maxRecDepth 100000 in
theorem lifted (os : Os) (started : os.Started) (H : Type) (enc : TypeId × Value → H) :
    ReturnsInHanded {} Try.checked os 10 .any (Rows.fnExactWorstDaysSpec.pre6 enc Try.prog Try.f10 Rows.fnExactWorstDaysRow.domain false) (Rows.fnExactWorstDaysSpec.post enc Try.prog Try.f10 false true false false) := by
  refine returnsInHanded_of_change (C := Try.checked) own started (by kernel_rfl) Try.func10
    (ChangeSpec.witness6 (enc := enc) (C := Try.checked) false ⟨#[], #[.slice none 0 0], []⟩ 8 (by kernel_rfl) (by kernel_rfl) (by kernel_rfl) (by kernel_rfl)) ?_
  intro W base args ds gs before hval0 hW hcnd _
  have hval : ∀ (j : Nat) t v, Try.f10.params[j]? = some t → args[j]? = some v → Value.okWide Try.prog W .any base t v := hval0
  have hW' := hW
  obtain ⟨p, q, hA0, hV, rfl, hfz, hnd⟩ := hW
  have hA : DataW.TrodAll enc Try.prog W 0 (fun _ => true) true Try.f10.params.toList args.toList ds p := hA0
  rw [Try.params10] at hA hval
  obtain ⟨v0, vs0, d0, ds0, p0, q0, hargs, rfl, rfl, h0, r0⟩ := trodAll_cons hA
  obtain ⟨rfl, rfl, rfl⟩ := trodAll_nil r0
  obtain rfl : args = #[v0] := by cases args; simp_all
  obtain ⟨rfl, rfl⟩ := trodVars_none hV
  have k0 := h0
  have lt0 : ∀ x ∈ p0, x.block < W.heap.size := by obtain ⟨m, hm⟩ := k0; exact DataW.trod_lt m _ _ _ hm
  obtain ⟨x0, xl0, xc0, ev0⟩ := okWide_slice Try.underlying28 (hval 0 28 v0 rfl rfl)
  subst ev0
  obtain ⟨fu0, hf0⟩ := h0
  obtain ⟨a0, la0, ca0, ea0, wa0⟩ := f_cells (goods := [gInt, gInt, gInt, gInt, gInt]) Try.underlying28 Try.underlying23 (by kernel_rfl) (by kernel_rfl) rfl (by intro j f g hj hg m v y hv; rcases j with _ | _ | _ | _ | _ | j; (simp at hj hg; subst hj; subst hg; exact f_int Try.underlying2 hv); (simp at hj hg; subst hj; subst hg; exact f_int Try.underlying2 hv); (simp at hj hg; subst hj; subst hg; exact f_int Try.underlying2 hv); (simp at hj hg; subst hj; subst hg; exact f_int Try.underlying2 hv); (simp at hj hg; subst hj; subst hg; exact f_int Try.underlying2 hv); simp at hj) (show DataW.trod enc Try.prog W 0 (fun _ => true) true fu0 28 [.slice x0 xl0 xc0] = some (d0, p0) from hf0)
  obtain ⟨rfl, rfl, rfl⟩ : a0 = x0 ∧ la0 = xl0 ∧ ca0 = xc0 := by injection ea0 with e1 e2 e3; exact ⟨e1.symm, e2.symm, e3.symm⟩
  clear hA0 hval0
  refine (walk_FnExactWorstDays a0 la0 ca0 W wa0).mono fun e W' ⟨he, bel⟩ => ?_
  subst he
  exact ⟨_, rfl, _, _, _, [], _, [], hW', trodAll_mk1 (shut_bool Try.underlying4 _), (trodAll_cons_mk (Below.trod laidOut (by kernel_rfl) (of_decide_eq_true (by kernel_rfl)) k0 bel lt0) trodAll_mk0), rfl, bel.frame _, fun h => by cases h⟩

theorem over : Rows.fnExactWorstDaysRow.holds Try.pinned (OpenSpec.ofChange Rows.fnExactWorstDaysSpec) :=
  OpenClaim.holds_of_wide 10 Try.f10 rfl rfl rfl rfl rfl rfl rfl ⟨rfl, rfl, rfl, rfl, rfl⟩ rfl rfl rfl rfl rfl (by kernel_rfl) Try.func10 (by kernel_rfl)
    (of_decide_eq_true (by kernel_rfl)) (by unfold Func.isWrapper; first | (rw [if_pos (by decide +kernel)]; kernel_rfl) | (rw [if_neg (by decide +kernel)]; exact ⟨rfl, rfl⟩))
    (fun os started H enc _ => lifted os started H enc)

theorem proved : Rows.FnExactWorstDaysSaid := over
#print axioms proved
end Go.Proofs.Ytfpfmfhhcgafcaa.fnExactWorstDays
