/-
  For every input that can be read, laws.FnExactValidBreach returns true and leaves its arguments as they were: Rows.FnExactValidBreachSaid, no condition beside the row's own.
-/
import Derived.Test.YtckhfkgldemcnaaRows
import Derived.WalkKit
import Derived.ProofKit
import Derived.OpenShut
import Derived.ShutString
import Derived.ChangeOld
import Derived.Below
import Derived.Test.YtckhfkgldemcnaaOpen
import Derived.Test.YtckhfkgldemcnaaWFnExactValidBreach
namespace Go.Proofs.Ytckhfkgldemcnaa.fnExactValidBreach
open Go.ChangeShapes Go.WideShapes Go.ChangeAt Go.RowKit
open Go.ChangeMaps (open_string shut_string)
set_option linter.unusedVariables false

theorem own : ownKnob Try.prog.godebug = none := by kernel_rfl
theorem laidOut : laidOutB Try.prog = true := by kernel_rfl

set_option maxRecDepth 100000 in
theorem lifted (os : Os) (started : os.Started) (H : Type) (enc : TypeId × Value → H) :
    ReturnsInHanded {} Try.checked os 3 .any (Rows.fnExactValidBreachSpec.pre6 enc Try.prog Try.f3 Rows.fnExactValidBreachRow.domain false) (Rows.fnExactValidBreachSpec.post enc Try.prog Try.f3 false true false false) := by
  refine returnsInHanded_of_change (C := Try.checked) own started (by kernel_rfl) Try.func3
    (ChangeSpec.witness6 (enc := enc) (C := Try.checked) false ⟨#[], #[.agg #[.slice none 0 0, .slice none 0 0], .agg #[.int .i64 0, .int .i64 0, .int .i64 0]], []⟩ 8 (by kernel_rfl) (by kernel_rfl) (by kernel_rfl) (by kernel_rfl)) ?_
  intro W base args ds gs before hval0 hW hcnd _
  have hval : ∀ (j : Nat) t v, Try.f3.params[j]? = some t → args[j]? = some v → Value.okWide Try.prog W .any base t v := hval0
  have hW' := hW
  obtain ⟨p, q, hA0, hV, rfl, hfz, hnd⟩ := hW
  have hA : DataW.TrodAll enc Try.prog W 0 (fun _ => true) true Try.f3.params.toList args.toList ds p := hA0
  rw [Try.params3] at hA hval
  obtain ⟨v0, vs0, d0, ds0, p0, q0, hargs, rfl, rfl, h0, r0⟩ := trodAll_cons hA
  obtain ⟨v1, vs1, d1, ds1, p1, q1, rfl, rfl, rfl, h1, r1⟩ := trodAll_cons r0
  obtain ⟨rfl, rfl, rfl⟩ := trodAll_nil r1
  obtain rfl : args = #[v0, v1] := by cases args; simp_all
  obtain ⟨rfl, rfl⟩ := trodVars_none hV
  have k0 := h0
  have lt0 : ∀ x ∈ p0, x.block < W.heap.size := by obtain ⟨m, hm⟩ := k0; exact DataW.trod_lt m _ _ _ hm
  obtain ⟨cs0, ev0, sz0, g0⟩ := v_agg Try.underlying24 (by kernel_rfl) (show Try.prog.cellsOf 24 = 2 by kernel_rfl) (hval 0 24 v0 rfl rfl) h0
  obtain ⟨c0_0, c0_1, ecs0⟩ := arr2 (sz0.trans rfl)
  subst ecs0
  subst ev0
  obtain ⟨u0_0, n0_0, y0_0, eu0_0, t0_0⟩ := g0 0 _ rfl
  obtain rfl : c0_0 = u0_0 := by simpa using eu0_0
  obtain ⟨a0_0, la0_0, ca0_0, za0_0, ea0_0, wa0_0⟩ := f_ints Try.underlying22 Try.underlying2 (by kernel_rfl) t0_0
  subst ea0_0
  obtain ⟨u0_1, n0_1, y0_1, eu0_1, t0_1⟩ := g0 1 _ rfl
  obtain rfl : c0_1 = u0_1 := by simpa using eu0_1
  obtain ⟨a0_1, la0_1, ca0_1, za0_1, ea0_1, wa0_1⟩ := f_ints Try.underlying22 Try.underlying2 (by kernel_rfl) t0_1
  subst ea0_1
  have k1 := h1
  have lt1 : ∀ x ∈ p1, x.block < W.heap.size := by obtain ⟨m, hm⟩ := k1; exact DataW.trod_lt m _ _ _ hm
  obtain ⟨cs1, ev1, sz1, g1⟩ := v_agg Try.underlying26 (by kernel_rfl) (show Try.prog.cellsOf 26 = 3 by kernel_rfl) (hval 1 26 v1 rfl rfl) h1
  obtain ⟨c1_0, c1_1, c1_2, ecs1⟩ := arr3 (sz1.trans rfl)
  subst ecs1
  subst ev1
  obtain ⟨u1_0, n1_0, y1_0, eu1_0, t1_0⟩ := g1 0 _ rfl
  obtain rfl : c1_0 = u1_0 := by simpa using eu1_0
  obtain ⟨a1_0, ea1_0, wa1_0⟩ := f_int Try.underlying2 t1_0
  subst ea1_0
  obtain ⟨u1_1, n1_1, y1_1, eu1_1, t1_1⟩ := g1 1 _ rfl
  obtain rfl : c1_1 = u1_1 := by simpa using eu1_1
  obtain ⟨a1_1, ea1_1, wa1_1⟩ := f_int Try.underlying2 t1_1
  subst ea1_1
  obtain ⟨u1_2, n1_2, y1_2, eu1_2, t1_2⟩ := g1 2 _ rfl
  obtain rfl : c1_2 = u1_2 := by simpa using eu1_2
  obtain ⟨a1_2, ea1_2, wa1_2⟩ := f_int Try.underlying2 t1_2
  subst ea1_2
  clear hA0 hval0
  refine (walk_FnExactValidBreach a0_0 la0_0 ca0_0 za0_0 a0_1 la0_1 ca0_1 za0_1 a1_0 a1_1 a1_2 W wa0_0 wa0_1 wa1_0 wa1_1 wa1_2).mono fun e W' ⟨he, bel⟩ => ?_
  subst he
  exact ⟨_, rfl, _, _, _, [], _, [], hW', trodAll_mk1 (shut_bool Try.underlying4 _), (trodAll_cons_mk (Below.trod laidOut (by kernel_rfl) (of_decide_eq_true (by kernel_rfl)) k0 bel lt0) (trodAll_cons_mk (Below.trod laidOut (by kernel_rfl) (of_decide_eq_true (by kernel_rfl)) k1 bel lt1) trodAll_mk0)), rfl, bel.frame _, fun h => by cases h⟩

theorem over : Rows.fnExactValidBreachRow.holds Try.pinned (OpenSpec.ofChange Rows.fnExactValidBreachSpec) :=
  OpenClaim.holds_of_wide 3 Try.f3 rfl rfl rfl rfl rfl rfl rfl ⟨rfl, rfl, rfl, rfl, rfl⟩ rfl rfl rfl rfl rfl (by kernel_rfl) Try.func3 (by kernel_rfl)
    (of_decide_eq_true (by kernel_rfl)) (by unfold Func.isWrapper; first | (rw [if_pos (by decide +kernel)]; kernel_rfl) | (rw [if_neg (by decide +kernel)]; exact ⟨rfl, rfl⟩))
    (fun os started H enc _ => lifted os started H enc)

theorem proved : Rows.FnExactValidBreachSaid := over
#print axioms proved
end Go.Proofs.Ytckhfkgldemcnaa.fnExactValidBreach
