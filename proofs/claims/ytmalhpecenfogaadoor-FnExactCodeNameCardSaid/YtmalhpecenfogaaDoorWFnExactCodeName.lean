import Derived.Test.YtmalhpecenfogaaDoorIn
import Derived.Test.YtmalhpecenfogaaDoorLaid
namespace Go.Proofs.YtmalhpecenfogaaDoor
open Go.RowKit

theorem codeNames_named : Tryd.prog.globalNamed "loop.example/g01032/impl.codeNames" = some 0 := by kernel_rfl
theorem codeNames_type : (Tryd.prog.globals[0]?).map (·.type) = some 51 := by kernel_rfl
theorem codeNames_cell {W : World} (h : laidMetH Tryd.prog Rows.fnExactCodeNameRow.laid W) (i : Nat) (l : List UInt8) (hl : (match (Rows.laid_loop_example_g01032_impl_codeNames : DataW Unit) with | .agg D => D[i]? | _ => none) = some (.lit (.string l))) :
    W.cell? ⟨0, i, none⟩ = some (.string ⟨l.toArray⟩) := by
  rw [MakeChecks.laidMetH_plain _ _ _ (by kernel_rfl)] at h
  obtain ⟨ps, ⟨g0, t0, cs0, f0, p0, q0, hg0, ht0, hv0, hd0, _, _⟩, _⟩ := h
  obtain rfl := Option.some.inj (codeNames_named.symm.trans hg0)
  obtain rfl := Option.some.inj (codeNames_type.symm.trans ht0)
  obtain ⟨c, m, qs, hc, hd⟩ := laid_arr Tryd.underlying51 (by kernel_rfl) (by kernel_rfl) hd0 i _ hl
  rw [World.var?_cell hg0 hv0 i, ← Array.getElem?_toList, hc, laid_string Tryd.underlying9 hd]

set_option maxHeartbeats 1000000 in
theorem walk_FnExactCodeName (a0 : Int) (w : World) (w0 : (Lit.int .i64 a0).wf = true) (hL : laidMetH Tryd.prog Rows.fnExactCodeNameRow.laid w) :
    Calls Tryd.prog 4 #[.int .i64 a0] w fun e w' => e = .returned (.bool true) ∧ Below w.heap.size w w' := by
  by_cases h : 0 ≤ a0 ∧ a0 ≤ 10
  · have c0 := codeNames_cell hL 0 _ rfl
    have c1 := codeNames_cell hL 1 _ rfl
    have c2 := codeNames_cell hL 2 _ rfl
    have c3 := codeNames_cell hL 3 _ rfl
    have c4 := codeNames_cell hL 4 _ rfl
    have c5 := codeNames_cell hL 5 _ rfl
    have c6 := codeNames_cell hL 6 _ rfl
    have c7 := codeNames_cell hL 7 _ rfl
    have c8 := codeNames_cell hL 8 _ rfl
    have c9 := codeNames_cell hL 9 _ rfl
    have c10 := codeNames_cell hL 10 _ rfl
    have hz : 0 < w.heap.size := World.block_lt_of_cell? _ _ c0
    clear hL w0
    have h' : a0 = 0 ∨ a0 = 1 ∨ a0 = 2 ∨ a0 = 3 ∨ a0 = 4 ∨ a0 = 5 ∨ a0 = 6 ∨ a0 = 7 ∨ a0 = 8 ∨ a0 = 9 ∨ a0 = 10 := by omega
    clear h
    rcases h' with rfl | rfl | rfl | rfl | rfl | rfl | rfl | rfl | rfl | rfl | rfl
    all_goals
      go_enter Tryd.func4, Tryd.ntmps4
      go_wp2_with (first | (go_at_call 42; first | (refine (in_t _ _ _ _ (by omega)).mono ?_; rintro e w' ⟨rfl, rfl⟩) | (refine (in_f _ _ _ _ (by omega)).mono ?_; rintro e w' ⟨rfl, rfl⟩)) | (go_at_call 37; first | (refine (within_t _ _ _ _ (by omega)).mono ?_; rintro e w' ⟨rfl, rfl⟩) | (refine (within_f _ _ _ _ (by omega)).mono ?_; rintro e w' ⟨rfl, rfl⟩)) | go_in)
      go_ret
      exact ⟨rfl, (by repeat (first | assumption | exact Below.refl _ _ | (refine Below.setCell ?_ (by simp <;> omega) _) | apply below_drewN | apply Below.drew | (refine Below.alloc ?_ (by simp <;> omega) _)))⟩
  · clear hL w0
    go_enter Tryd.func4, Tryd.ntmps4
    go_wp2_with (first | (go_at_call 42; first | (refine (in_t _ _ _ _ (by omega)).mono ?_; rintro e w' ⟨rfl, rfl⟩) | (refine (in_f _ _ _ _ (by omega)).mono ?_; rintro e w' ⟨rfl, rfl⟩)) | (go_at_call 37; first | (refine (within_t _ _ _ _ (by omega)).mono ?_; rintro e w' ⟨rfl, rfl⟩) | (refine (within_f _ _ _ _ (by omega)).mono ?_; rintro e w' ⟨rfl, rfl⟩)) | go_in)
    go_ret
    exact ⟨rfl, (by repeat (first | assumption | exact Below.refl _ _ | (refine Below.setCell ?_ (by simp <;> omega) _) | apply below_drewN | apply Below.drew | (refine Below.alloc ?_ (by simp <;> omega) _)))⟩


end Go.Proofs.YtmalhpecenfogaaDoor
