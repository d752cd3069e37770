/-
  For every input that can be read, laws.FnExactFlowProof returns true and leaves its arguments as they were: Rows.FnExactFlowProofSaid, no condition beside the row's own.
-/
import Derived.Test.YtlibmlbefboolaaRows
import Derived.WalkKit
import Derived.ProofKit
import Derived.OpenShut
import Derived.ShutString
import Derived.ChangeOld
import Derived.Below
import Derived.Test.YtlibmlbefboolaaOpen
import Derived.Test.YtlibmlbefboolaaWFnExactFlowProof
namespace Go.Proofs.Ytlibmlbefboolaa.fnExactFlowProof
open Go.ChangeShapes Go.WideShapes Go.ChangeAt Go.RowKit
open Go.ChangeMaps (open_string shut_string)
set_option linter.unusedVariables false

theorem own : ownKnob Try.prog.godebug = none := by kernel_rfl
theorem laidOut : laidOutB Try.prog = true := by kernel_rfl

set_option maxRecDepth 100000 in
theorem lifted (os : Os) (started : os.Started) (H : Type) (enc : TypeId × Value → H) :
    ReturnsInHanded {} Try.checked os 7 .any (Rows.fnExactFlowProofSpec.pre6 enc Try.prog Try.f7 Rows.fnExactFlowProofRow.domain false) (Rows.fnExactFlowProofSpec.post enc Try.prog Try.f7 false true false false) := by
  refine returnsInHanded_of_change (C := Try.checked) own started (by kernel_rfl) Try.func7
    (ChangeSpec.witness6 (enc := enc) (C := Try.checked) false ⟨#[], #[.agg #[.int .i64 0, .slice none 0 0], .int .i64 0, .slice none 0 0, .slice none 0 0], []⟩ 8 (by kernel_rfl) (by kernel_rfl) (by kernel_rfl) (by kernel_rfl)) ?_
  intro W base args ds gs before hval0 hW hcnd _
  have hval : ∀ (j : Nat) t v, Try.f7.params[j]? = some t → args[j]? = some v → Value.okWide Try.prog W .any base t v := hval0
  have hW' := hW
  obtain ⟨p, q, hA0, hV, rfl, hfz, hnd⟩ := hW
  have hA : DataW.TrodAll enc Try.prog W 0 (fun _ => true) true Try.f7.params.toList args.toList ds p := hA0
  rw [Try.params7] at hA hval
  obtain ⟨v0, vs0, d0, ds0, p0, q0, hargs, rfl, rfl, h0, r0⟩ := trodAll_cons hA
  obtain ⟨v1, vs1, d1, ds1, p1, q1, rfl, rfl, rfl, h1, r1⟩ := trodAll_cons r0
  obtain ⟨v2, vs2, d2, ds2, p2, q2, rfl, rfl, rfl, h2, r2⟩ := trodAll_cons r1
  obtain ⟨v3, vs3, d3, ds3, p3, q3, rfl, rfl, rfl, h3, r3⟩ := trodAll_cons r2
  obtain ⟨rfl, rfl, rfl⟩ := trodAll_nil r3
  obtain rfl : args = #[v0, v1, v2, v3] := by cases args; simp_all
  obtain ⟨rfl, rfl⟩ := trodVars_none hV
  have k0 := h0
  have lt0 : ∀ x ∈ p0, x.block < W.heap.size := by obtain ⟨m, hm⟩ := k0; exact DataW.trod_lt m _ _ _ hm
  obtain ⟨cs0, ev0, sz0, g0⟩ := v_agg Try.underlying24 (by kernel_rfl) (show Try.prog.cellsOf 24 = 2 by kernel_rfl) (hval 0 24 v0 rfl rfl) h0
  obtain ⟨c0_0, c0_1, ecs0⟩ := arr2 (sz0.trans rfl)
  subst ecs0
  subst ev0
  obtain ⟨u0_0, n0_0, y0_0, eu0_0, t0_0⟩ := g0 0 _ rfl
  obtain rfl : c0_0 = u0_0 := by simpa using eu0_0
  obtain ⟨a0_0, ea0_0, wa0_0⟩ := f_int Try.underlying2 t0_0
  subst ea0_0
  obtain ⟨u0_1, n0_1, y0_1, eu0_1, t0_1⟩ := g0 1 _ rfl
  obtain rfl : c0_1 = u0_1 := by simpa using eu0_1
  obtain ⟨a0_1, la0_1, ca0_1, ea0_1, wa0_1⟩ := f_cells (goods := [gInt, gInt, gInt]) Try.underlying22 Try.underlying26 (by kernel_rfl) (by kernel_rfl) rfl (by intro j f g hj hg m v y hv; rcases j with _ | _ | _ | j; (simp at hj hg; subst hj; subst hg; exact f_int Try.underlying2 hv); (simp at hj hg; subst hj; subst hg; exact f_int Try.underlying2 hv); (simp at hj hg; subst hj; subst hg; exact f_int Try.underlying2 hv); simp at hj) t0_1
  subst ea0_1
  have k1 := h1
  have lt1 : ∀ x ∈ p1, x.block < W.heap.size := by obtain ⟨m, hm⟩ := k1; exact DataW.trod_lt m _ _ _ hm
  obtain ⟨a1, ev1, _, _, w1⟩ := open_int Try.underlying2 (hval 1 2 v1 rfl rfl) h1
  subst ev1
  have k2 := h2
  have lt2 : ∀ x ∈ p2, x.block < W.heap.size := by obtain ⟨m, hm⟩ := k2; exact DataW.trod_lt m _ _ _ hm
  obtain ⟨x2, xl2, xc2, ev2⟩ := okWide_slice Try.underlying41 (hval 2 41 v2 rfl rfl)
  subst ev2
  obtain ⟨fu2, hf2⟩ := h2
  obtain ⟨a2, la2, ca2, za2, ea2, wa2⟩ := f_ints Try.underlying41 Try.underlying2 (by kernel_rfl) (show DataW.trod enc Try.prog W 0 (fun _ => true) true fu2 41 [.slice x2 xl2 xc2] = some (d2, p2) from hf2)
  obtain ⟨rfl, rfl, rfl⟩ : a2 = x2 ∧ la2 = xl2 ∧ ca2 = xc2 := by injection ea2 with e1 e2 e3; exact ⟨e1.symm, e2.symm, e3.symm⟩
  have k3 := h3
  have lt3 : ∀ x ∈ p3, x.block < W.heap.size := by obtain ⟨m, hm⟩ := k3; exact DataW.trod_lt m _ _ _ hm
  obtain ⟨x3, xl3, xc3, ev3⟩ := okWide_slice Try.underlying41 (hval 3 41 v3 rfl rfl)
  subst ev3
  obtain ⟨fu3, hf3⟩ := h3
  obtain ⟨a3, la3, ca3, za3, ea3, wa3⟩ := f_ints Try.underlying41 Try.underlying2 (by kernel_rfl) (show DataW.trod enc Try.prog W 0 (fun _ => true) true fu3 41 [.slice x3 xl3 xc3] = some (d3, p3) from hf3)
  obtain ⟨rfl, rfl, rfl⟩ : a3 = x3 ∧ la3 = xl3 ∧ ca3 = xc3 := by injection ea3 with e1 e2 e3; exact ⟨e1.symm, e2.symm, e3.symm⟩
  clear hA0 hval0
  refine (walk_FnExactFlowProof a0_0 a0_1 la0_1 ca0_1 a1 a2 la2 ca2 za2 a3 la3 ca3 za3 W wa0_0 wa0_1 w1 wa2 wa3).mono fun e W' ⟨he, bel⟩ => ?_
  subst he
  exact ⟨_, rfl, _, _, _, [], _, [], hW', trodAll_mk1 (shut_bool Try.underlying4 _), (trodAll_cons_mk (Below.trod laidOut (by kernel_rfl) (of_decide_eq_true (by kernel_rfl)) k0 bel lt0) (trodAll_cons_mk (Below.trod laidOut (by kernel_rfl) (of_decide_eq_true (by kernel_rfl)) k1 bel lt1) (trodAll_cons_mk (Below.trod laidOut (by kernel_rfl) (of_decide_eq_true (by kernel_rfl)) k2 bel lt2) (trodAll_cons_mk (Below.trod laidOut (by kernel_rfl) (of_decide_eq_true (by kernel_rfl)) k3 bel lt3) trodAll_mk0)))), rfl, bel.frame _, fun h => by cases h⟩

theorem over : Rows.fnExactFlowProofRow.holds Try.pinned (OpenSpec.ofChange Rows.fnExactFlowProofSpec) :=
  OpenClaim.holds_of_wide 7 Try.f7 rfl rfl rfl rfl rfl rfl rfl ⟨rfl, rfl, rfl, rfl, rfl⟩ rfl rfl rfl rfl rfl (by kernel_rfl) Try.func7 (by kernel_rfl)
    (of_decide_eq_true (by kernel_rfl)) (by unfold Func.isWrapper; first | (rw [if_pos (by decide +kernel)]; kernel_rfl) | (rw [if_neg (by decide +kernel)]; exact ⟨rfl, rfl⟩))
    (fun os started H enc _ => lifted os started H enc)

theorem proved : Rows.FnExactFlowProofSaid := over
#print axioms proved
end Go.Proofs.Ytlibmlbefboolaa.fnExactFlowProof
