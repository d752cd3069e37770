/-
  For every input that can be read, laws.FnExactLevelsOver returns true and leaves its arguments as they were: Rows.FnExactLevelsOverCardSaid: the package-level variables that it reads hold what the text of the program lays, which the given tie shows; no other condition beside the row's own.
-/
import Derived.Test.YtfpfmfhhcgafcabDoorTie
import Derived.Test.YtfpfmfhhcgafcabDoorCards
import Derived.Test.YtfpfmfhhcgafcabDoorLaid
import Derived.SevenTiedAt
import Derived.WalkKit
import Derived.ProofKit
import Derived.OpenShut
import Derived.ShutString
import Derived.ChangeOld
import Derived.Below
import Derived.Test.YtfpfmfhhcgafcabDoorOpen
import Derived.Test.YtfpfmfhhcgafcabDoorWFnExactLevelsOver
namespace Go.Proofs.YtfpfmfhhcgafcabDoor.fnExactLevelsOver
open Go.ChangeShapes Go.WideShapes Go.ChangeAt Go.RowKit
open Go.ChangeMaps (open_string shut_string)
set_option linter.unusedVariables false

theorem own : ownKnob Tryd.prog.godebug = none := by kernel_rfl
theorem laidOut : laidOutB Tryd.prog = true := by kernel_rfl

theorem door_met (os : Os) (args : Array Value) : laidMetH Tryd.prog Rows.fnExactLevelsOverRow.laid ((World.doorLaid Tryd.prog 400 os).forCall (fun _ _ => 0) ⟨#[], args, []⟩).memory :=
  laidMetH_of_parts3 (fuel := 8) (laidMet_of_run' 8 (by kernel_rfl) (by kernel_rfl)) (by kernel_rfl) (by kernel_rfl)

set_option maxRecDepth 100000 in
theorem lifted (os : Os) (started : os.Started) (H : Type) (enc : TypeId × Value → H) :
    ReturnsInHanded {} Tryd.checked os 3 .any (fun w args => (Rows.fnExactLevelsOverSpec.pre enc Tryd.prog Tryd.f3 [] false w args ∧ laidMetH Tryd.prog Rows.fnExactLevelsOverRow.laid w) ∧ sizedMet enc Tryd.prog Tryd.f3 (OpenSpec.ofChange Rows.fnExactLevelsOverSpec) false w args)
      (Rows.fnExactLevelsOverSpec.post enc Tryd.prog Tryd.f3 false true false false) := by
  refine returnsInHanded_of_change_and (C := Tryd.checked) (X := fun w _ => laidMetH Tryd.prog Rows.fnExactLevelsOverRow.laid w) (fun _ _ _ hh h => h.of_heap hh) own started (by kernel_rfl) Tryd.func3
    (ChangeSpec.witness_shaped (enc := enc) (C := Tryd.checked) (os := os) (X := fun w _ => laidMetH Tryd.prog Rows.fnExactLevelsOverRow.laid w) false (World.doorLaid Tryd.prog 400 os) #[.agg #[.slice none 0 0, .slice none 0 0], .int .i64 0, .slice none 0 0] 8 rfl (World.shaped_of_RefB (by kernel_rfl) (by kernel_rfl)) (by kernel_rfl) (by kernel_rfl) (by kernel_rfl) (door_met os _)) ?_
  intro W base args ds gs before hval0 hW _ _ hL _
  have hval : ∀ (j : Nat) t v, Tryd.f3.params[j]? = some t → args[j]? = some v → Value.okWide Tryd.prog W .any base t v := hval0
  have hW' := hW
  obtain ⟨p, q, hA0, hV, rfl, hfz, hnd⟩ := hW
  have hA : DataW.TrodAll enc Tryd.prog W 0 (fun _ => true) true Tryd.f3.params.toList args.toList ds p := hA0
  rw [Tryd.params3] at hA hval
  obtain ⟨v0, vs0, d0, ds0, p0, q0, hargs, rfl, rfl, h0, r0⟩ := trodAll_cons hA
  obtain ⟨v1, vs1, d1, ds1, p1, q1, rfl, rfl, rfl, h1, r1⟩ := trodAll_cons r0
  obtain ⟨v2, vs2, d2, ds2, p2, q2, rfl, rfl, rfl, h2, r2⟩ := trodAll_cons r1
  obtain ⟨rfl, rfl, rfl⟩ := trodAll_nil r2
  obtain rfl : args = #[v0, v1, v2] := by cases args; simp_all
  have hV0 := hV
  obtain ⟨gv0, tv0, csv0, fv0, dv0, pv0, gv1, tv1, csv1, fv1, dv1, pv1, rfl, _, _, _, _, _, _, _, _, _⟩ := trodVars_two hV
  have k0 := h0
  have lt0 : ∀ x ∈ p0, x.block < W.heap.size := by obtain ⟨m, hm⟩ := k0; exact DataW.trod_lt m _ _ _ hm
  obtain ⟨cs0, ev0, sz0, g0⟩ := v_agg Tryd.underlying24 (by kernel_rfl) (show Tryd.prog.cellsOf 24 = 2 by kernel_rfl) (hval 0 24 v0 rfl rfl) h0
  obtain ⟨c0_0, c0_1, ecs0⟩ := arr2 (sz0.trans rfl)
  subst ecs0
  subst ev0
  obtain ⟨u0_0, n0_0, y0_0, eu0_0, t0_0⟩ := g0 0 _ rfl
  obtain rfl : c0_0 = u0_0 := by simpa using eu0_0
  obtain ⟨a0_0, la0_0, ca0_0, za0_0, ea0_0, wa0_0⟩ := f_ints Tryd.underlying22 Tryd.underlying2 (by kernel_rfl) t0_0
  subst ea0_0
  obtain ⟨u0_1, n0_1, y0_1, eu0_1, t0_1⟩ := g0 1 _ rfl
  obtain rfl : c0_1 = u0_1 := by simpa using eu0_1
  obtain ⟨a0_1, la0_1, ca0_1, za0_1, ea0_1, wa0_1⟩ := f_ints Tryd.underlying22 Tryd.underlying2 (by kernel_rfl) t0_1
  subst ea0_1
  have k1 := h1
  have lt1 : ∀ x ∈ p1, x.block < W.heap.size := by obtain ⟨m, hm⟩ := k1; exact DataW.trod_lt m _ _ _ hm
  obtain ⟨a1, ev1, _, _, w1⟩ := open_int Tryd.underlying2 (hval 1 2 v1 rfl rfl) h1
  subst ev1
  have k2 := h2
  have lt2 : ∀ x ∈ p2, x.block < W.heap.size := by obtain ⟨m, hm⟩ := k2; exact DataW.trod_lt m _ _ _ hm
  obtain ⟨x2, xl2, xc2, ev2⟩ := okWide_slice Tryd.underlying25 (hval 2 25 v2 rfl rfl)
  subst ev2
  obtain ⟨fu2, hf2⟩ := h2
  obtain ⟨a2, la2, ca2, ea2, wa2⟩ := f_cells (goods := [gInt, gInt, gInt, gInt, gInt]) Tryd.underlying25 Tryd.underlying50 (by kernel_rfl) (by kernel_rfl) rfl (by intro j f g hj hg m v y hv; rcases j with _ | _ | _ | _ | _ | j; (simp at hj hg; subst hj; subst hg; exact f_int Tryd.underlying2 hv); (simp at hj hg; subst hj; subst hg; exact f_int Tryd.underlying2 hv); (simp at hj hg; subst hj; subst hg; exact f_int Tryd.underlying2 hv); (simp at hj hg; subst hj; subst hg; exact f_int Tryd.underlying2 hv); (simp at hj hg; subst hj; subst hg; exact f_int Tryd.underlying2 hv); simp at hj) (show DataW.trod enc Tryd.prog W 0 (fun _ => true) true fu2 25 [.slice x2 xl2 xc2] = some (d2, p2) from hf2)
  obtain ⟨rfl, rfl, rfl⟩ : a2 = x2 ∧ la2 = xl2 ∧ ca2 = xc2 := by injection ea2 with e1 e2 e3; exact ⟨e1.symm, e2.symm, e3.symm⟩
  clear hA0 hval0
  refine (walk_FnExactLevelsOver a0_0 la0_0 ca0_0 za0_0 a0_1 la0_1 ca0_1 za0_1 a1 a2 la2 ca2 W wa0_0 wa0_1 w1 wa2 hL).mono fun e W' ⟨he, bel⟩ => ?_
  subst he
  exact ⟨_, rfl, _, _, _, [], _, _, hW', trodAll_mk1 (shut_bool Tryd.underlying4 _), (trodAll_cons_mk (Below.trod laidOut (by kernel_rfl) (of_decide_eq_true (by kernel_rfl)) k0 bel lt0) (trodAll_cons_mk (Below.trod laidOut (by kernel_rfl) (of_decide_eq_true (by kernel_rfl)) k1 bel lt1) (trodAll_cons_mk (Below.trod laidOut (by kernel_rfl) (of_decide_eq_true (by kernel_rfl)) k2 bel lt2) trodAll_mk0))), Below.trodVars laidOut bel (by kernel_rfl) hV0, bel.frame _, fun h => by cases h⟩

theorem over : Rows.FnExactLevelsOverSaid :=
  OpenClaim.holds_of_wide 3 Tryd.f3 rfl rfl rfl rfl rfl rfl rfl ⟨rfl, rfl, rfl, rfl, rfl⟩ rfl rfl rfl rfl rfl (by kernel_rfl) Tryd.func3 (by kernel_rfl)
    (of_decide_eq_true (by kernel_rfl)) (by unfold Func.isWrapper; first | (rw [if_pos (by decide +kernel)]; kernel_rfl) | (rw [if_neg (by decide +kernel)]; exact ⟨rfl, rfl⟩))
    (fun os started H enc _ => lifted os started H enc)

theorem proved : Rows.FnExactLevelsOverCardSaid :=
  Claim7.holds_tied_plain_at .later [] [.sentinel, .sentinel] true (true, "bc8294c63d4810bcca110bc18606e0938aae9c5525c460334fd398f239040785") true
    over (fun _ h => by cases h) (by kernel_rfl) (fun _ h => by cases h) fnExactLevelsOver_row_tie rfl ⟨rfl, rfl⟩ (by kernel_rfl) rfl
    (fun f fn hf hfn => by
      obtain rfl : f = 3 := Option.some.inj ((show Tryd.prog.funcNamed "loop.example/g01032/laws.FnExactLevelsOver" = some 3 by kernel_rfl).symm.trans hf) |>.symm
      obtain rfl : fn = Tryd.f3 := (Option.some.inj (Tryd.func3.symm.trans hfn)).symm
      exact ⟨by kernel_rfl, fun j t ht => by
        rw [Tryd.params3] at ht
        have hm : t ∈ [24, 2, 25] := by simpa using Array.mem_of_getElem? ht
        have hall : ([24, 2, 25].all fun u => !Tryd.prog.wantsStandIn u) = true := by kernel_rfl
        exact (show Tryd.prog.wantsStandIn t = false by simpa using List.all_eq_true.1 hall t hm)⟩)
    (by kernel_rfl)
#print axioms proved
end Go.Proofs.YtfpfmfhhcgafcabDoor.fnExactLevelsOver
