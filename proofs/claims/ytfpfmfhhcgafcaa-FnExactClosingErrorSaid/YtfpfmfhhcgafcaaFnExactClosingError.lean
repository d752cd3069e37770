/-
  For every input that can be read, laws.FnExactClosingError returns true and leaves its arguments as they were: Rows.FnExactClosingErrorSaid, no condition beside the row's own.
-/
import Derived.Test.YtfpfmfhhcgafcaaRows
import Derived.WalkKit
import Derived.ProofKit
import Derived.OpenShut
import Derived.ShutString
import Derived.ChangeOld
import Derived.Below
import Derived.Test.YtfpfmfhhcgafcaaOpen
import Derived.Test.YtfpfmfhhcgafcaaWFnExactClosingError
namespace Go.Proofs.Ytfpfmfhhcgafcaa.fnExactClosingError
open Go.ChangeShapes Go.WideShapes Go.ChangeAt Go.RowKit
open Go.ChangeMaps (open_string shut_string)
set_option linter.unusedVariables false

theorem own : ownKnob Try.prog.godebug = none := by kernel_rfl
theorem laidOut : laidOutB Try.prog = true := by kernel_rfl

set_option maxRecDepth 100000 in
theorem lifted (os : Os) (started : os.Started) (H : Type) (enc : TypeId × Value → H) :
    ReturnsInHanded {} Try.checked os 8 .any (Rows.fnExactClosingErrorSpec.pre6 enc Try.prog Try.f8 Rows.fnExactClosingErrorRow.domain false) (Rows.fnExactClosingErrorSpec.post enc Try.prog Try.f8 false true false false) := by
  refine returnsInHanded_of_change (C := Try.checked) own started (by kernel_rfl) Try.func8
    (ChangeSpec.witness6 (enc := enc) (C := Try.checked) false ⟨#[], #[.int .i64 0, .int .i64 0, .slice none 0 0], []⟩ 8 (by kernel_rfl) (by kernel_rfl) (by kernel_rfl) (by kernel_rfl)) ?_
  intro W base args ds gs before hval0 hW hcnd _
  have hval : ∀ (j : Nat) t v, Try.f8.params[j]? = some t → args[j]? = some v → Value.okWide Try.prog W .any base t v := hval0
  have hW' := hW
  obtain ⟨p, q, hA0, hV, rfl, hfz, hnd⟩ := hW
  have hA : DataW.TrodAll enc Try.prog W 0 (fun _ => true) true Try.f8.params.toList args.toList ds p := hA0
  rw [Try.params8] at hA hval
  obtain ⟨v0, vs0, d0, ds0, p0, q0, hargs, rfl, rfl, h0, r0⟩ := trodAll_cons hA
  obtain ⟨v1, vs1, d1, ds1, p1, q1, rfl, rfl, rfl, h1, r1⟩ := trodAll_cons r0
  obtain ⟨v2, vs2, d2, ds2, p2, q2, rfl, rfl, rfl, h2, r2⟩ := trodAll_cons r1
  obtain ⟨rfl, rfl, rfl⟩ := trodAll_nil r2
  obtain rfl : args = #[v0, v1, v2] := by cases args; simp_all
  obtain ⟨rfl, rfl⟩ := trodVars_none hV
  have k0 := h0
  have lt0 : ∀ x ∈ p0, x.block < W.heap.size := by obtain ⟨m, hm⟩ := k0; exact DataW.trod_lt m _ _ _ hm
  obtain ⟨a0, ev0, _, _, w0⟩ := open_int Try.underlying2 (hval 0 2 v0 rfl rfl) h0
  subst ev0
  have k1 := h1
  have lt1 : ∀ x ∈ p1, x.block < W.heap.size := by obtain ⟨m, hm⟩ := k1; exact DataW.trod_lt m _ _ _ hm
  obtain ⟨a1, ev1, _, _, w1⟩ := open_int Try.underlying2 (hval 1 2 v1 rfl rfl) h1
  subst ev1
  have k2 := h2
  have lt2 : ∀ x ∈ p2, x.block < W.heap.size := by obtain ⟨m, hm⟩ := k2; exact DataW.trod_lt m _ _ _ hm
  obtain ⟨x2, xl2, xc2, ev2⟩ := okWide_slice Try.underlying28 (hval 2 28 v2 rfl rfl)
  subst ev2
  obtain ⟨fu2, hf2⟩ := h2
  obtain ⟨a2, la2, ca2, ea2, wa2⟩ := f_cells (goods := [gInt, gInt, gInt, gInt, gInt]) Try.underlying28 Try.underlying23 (by kernel_rfl) (by kernel_rfl) rfl (by intro j f g hj hg m v y hv; rcases j with _ | _ | _ | _ | _ | j; (simp at hj hg; subst hj; subst hg; exact f_int Try.underlying2 hv); (simp at hj hg; subst hj; subst hg; exact f_int Try.underlying2 hv); (simp at hj hg; subst hj; subst hg; exact f_int Try.underlying2 hv); (simp at hj hg; subst hj; subst hg; exact f_int Try.underlying2 hv); (simp at hj hg; subst hj; subst hg; exact f_int Try.underlying2 hv); simp at hj) (show DataW.trod enc Try.prog W 0 (fun _ => true) true fu2 28 [.slice x2 xl2 xc2] = some (d2, p2) from hf2)
  obtain ⟨rfl, rfl, rfl⟩ : a2 = x2 ∧ la2 = xl2 ∧ ca2 = xc2 := by injection ea2 with e1 e2 e3; exact ⟨e1.symm, e2.symm, e3.symm⟩
  clear hA0 hval0
  refine (walk_FnExactClosingError a0 a1 a2 la2 ca2 W w0 w1 wa2).mono fun e W' ⟨he, bel⟩ => ?_
  subst he
  exact ⟨_, rfl, _, _, _, [], _, [], hW', trodAll_mk1 (shut_bool Try.underlying4 _), (trodAll_cons_mk (Below.trod laidOut (by kernel_rfl) (of_decide_eq_true (by kernel_rfl)) k0 bel lt0) (trodAll_cons_mk (Below.trod laidOut (by kernel_rfl) (of_decide_eq_true (by kernel_rfl)) k1 bel lt1) (trodAll_cons_mk (Below.trod laidOut (by kernel_rfl) (of_decide_eq_true (by kernel_rfl)) k2 bel lt2) trodAll_mk0))), rfl, bel.frame _, fun h => by cases h⟩

theorem over : Rows.fnExactClosingErrorRow.holds Try.pinned (OpenSpec.ofChange Rows.fnExactClosingErrorSpec) :=
  OpenClaim.holds_of_wide 8 Try.f8 rfl rfl rfl rfl rfl rfl rfl ⟨rfl, rfl, rfl, rfl, rfl⟩ rfl rfl rfl rfl rfl (by kernel_rfl) Try.func8 (by kernel_rfl)
    (of_decide_eq_true (by kernel_rfl)) (by unfold Func.isWrapper; first | (rw [if_pos (by decide +kernel)]; kernel_rfl) | (rw [if_neg (by decide +kernel)]; exact ⟨rfl, rfl⟩))
    (fun os started H enc _ => lifted os started H enc)

theorem proved : Rows.FnExactClosingErrorSaid := over
#print axioms proved
end Go.Proofs.Ytfpfmfhhcgafcaa.fnExactClosingError
