/- The law of ReadWater. -/
import Derived.Test.YtfpfmfhhcgafcaaDoorWaI
import Derived.Test.YtfpfmfhhcgafcaaDoorRWater
import Derived.Test.YtfpfmfhhcgafcaaDoorWFnExactReadDecimal
import Derived.Shelf.Vars
namespace Go.Proofs.YtfpfmfhhcgafcaaDoor
open Go.RowKit

theorem filt_len : ∀ L : List (List UInt8), (L.filter fun x => decide (x ≠ [])).length ≤ (joinL 32 L).length
  | [] => Nat.le_refl _
  | [x] => by
    show _ ≤ x.length
    cases x <;> simp
  | x :: y :: r => by
    have ih := filt_len (y :: r)
    show _ ≤ (x ++ 32 :: joinL 32 (y :: r)).length
    rw [List.filter_cons, List.length_append, List.length_cons]
    split
    · rename_i hx
      have hx2 : x ≠ [] := by simpa using hx
      have : 0 < x.length := List.length_pos_iff.2 hx2
      rw [List.length_cons]
      omega
    · omega
theorem words_le (s : ByteArray) : (wordsOf s).length ≤ s.size := by
  rw [words_filter, parts_split, List.filter_map, List.length_map]
  have h := filt_len (splitL 32 s.data.toList)
  have e := join_split 32 s.data.toList
  rw [show (32 : UInt8).toNat = 32 from rfl] at e
  rw [e] at h
  have e2 : (splitL 32 s.data.toList).filter ((fun y => decide (y ≠ (⟨#[]⟩ : ByteArray))) ∘ mkB) = (splitL 32 s.data.toList).filter fun x => decide (x ≠ []) := by
    apply List.filter_congr
    intro x _
    show decide (mkB x ≠ ⟨#[]⟩) = decide (x ≠ [])
    refine decide_eq_decide.2 (not_congr ⟨fun h => ?_, fun h => by rw [h]; rfl⟩)
    have := congrArg (fun b : ByteArray => b.data.toList) h
    simpa [mkB] using this
  rw [e2]
  exact h

set_option maxHeartbeats 1600000 in
theorem walk_FnExactReadWater (a0 : ByteArray) (w : World) (w0 : a0.size ≤ maxLen) (hL : laidMetH Tryd.prog Rows.fnExactReadWaterRow.laid w) :
    Calls Tryd.prog 4 #[.string a0] w fun e w' => e = .returned (.bool true) ∧ Below w.heap.size w w' := by
  rw [MakeChecks.laidMetH_plain _ _ _ (by kernel_rfl)] at hL
  have env : NumEnv w := ⟨pow_of_laid hL (.tail _ (.tail _ (.head _))),
    err_of_laid hL (.tail _ (.tail _ (.tail _ (.tail _ (.head _))))) (by kernel_rfl) (t := 56) (by kernel_rfl) Tryd.underlying56 ⟨_, _, rfl⟩,
    err_of_laid hL (.tail _ (.tail _ (.tail _ (.head _)))) (by kernel_rfl) (t := 56) (by kernel_rfl) Tryd.underlying56 ⟨_, _, rfl⟩⟩
  have HE := Lib.hid env
  clear hL env
  unfold maxLen at w0
  by_cases hn : a0.size ≤ 1048576
  · obtain ⟨res, hres⟩ := wr_res a0.data.toList
    obtain ⟨f, hf⟩ := num_fun
    have hwl : (wordsOf a0).length ≤ 1048576 := Nat.le_trans (words_le a0) hn
    obtain ⟨v0, hv0⟩ : ∃ v, v = (res.getD zWater).f0 := ⟨_, rfl⟩
    obtain ⟨v1, hv1⟩ : ∃ v, v = (res.getD zWater).f1 := ⟨_, rfl⟩
    obtain ⟨v2, hv2⟩ : ∃ v, v = (res.getD zWater).f2 := ⟨_, rfl⟩
    obtain ⟨v3, hv3⟩ : ∃ v, v = (res.getD zWater).f3 := ⟨_, rfl⟩
    obtain ⟨v4, hv4⟩ : ∃ v, v = (res.getD zWater).f4 := ⟨_, rfl⟩
    obtain ⟨v, hv⟩ : ∃ v, v = res.isSome := ⟨_, rfl⟩
    have SP := Lib.hid (show ∀ W : World, Calls Tryd.prog 8 #[.string a0] W fun e w' => e = .returned (.tuple #[.agg #[.int .i64 v0, .int .i64 v1, .int .i64 v2, .int .i64 v3, .int .i64 v4], .bool v]) ∧ Below W.heap.size W w' from fun W => by rw [hv0, hv1, hv2, hv3, hv4, hv]; exact wr_spec f hf _ _ hn _ hres)
    have IM := Lib.hid (show ∀ W : World, NumEnv W → Calls Tryd.prog 9 #[.string a0] W fun e w' => e = .returned (.tuple #[.agg #[.int .i64 v0, .int .i64 v1, .int .i64 v2, .int .i64 v3, .int .i64 v4], .bool v]) ∧ Below W.heap.size W w' from fun W h1 => by rw [hv0, hv1, hv2, hv3, hv4, hv]; exact wr_impl f hf _ _ hn hwl h1 _ hres)
    have e2 : (v != v) = false := by simp
    clear hres hf hwl hv0 hv1 hv2 hv3 hv4 hv
    go_enter Tryd.func4, Tryd.ntmps4
    go_wp2_with fail
    refine (SP.out _).mono ?_
    rintro e1 W1 ⟨rfl, b1⟩
    have A1 : Below W1.heap.size W1 (W1.alloc (.cells #[.int .i64 v0, .int .i64 v1, .int .i64 v2, .int .i64 v3, .int .i64 v4] 25)) := Below.alloc (Below.refl _ _) (Nat.le_refl _) _
    have D1 := b1.trans (A1.mono b1.size)
    have z0 : (W1.alloc (.cells #[.int .i64 v0, .int .i64 v1, .int .i64 v2, .int .i64 v3, .int .i64 v4] 25)).cell? ⟨W1.heap.size, 0, none⟩ = some (.int .i64 v0) := by simp
    have z1 : (W1.alloc (.cells #[.int .i64 v0, .int .i64 v1, .int .i64 v2, .int .i64 v3, .int .i64 v4] 25)).cell? ⟨W1.heap.size, 1, none⟩ = some (.int .i64 v1) := by simp
    have z2 : (W1.alloc (.cells #[.int .i64 v0, .int .i64 v1, .int .i64 v2, .int .i64 v3, .int .i64 v4] 25)).cell? ⟨W1.heap.size, 2, none⟩ = some (.int .i64 v2) := by simp
    have z3 : (W1.alloc (.cells #[.int .i64 v0, .int .i64 v1, .int .i64 v2, .int .i64 v3, .int .i64 v4] 25)).cell? ⟨W1.heap.size, 3, none⟩ = some (.int .i64 v3) := by simp
    have z4 : (W1.alloc (.cells #[.int .i64 v0, .int .i64 v1, .int .i64 v2, .int .i64 v3, .int .i64 v4] 25)).cell? ⟨W1.heap.size, 4, none⟩ = some (.int .i64 v4) := by simp
    have s1 : W1.heap.size < (W1.alloc (.cells #[.int .i64 v0, .int .i64 v1, .int .i64 v2, .int .i64 v3, .int .i64 v4] 25)).heap.size := by simp
    go_wp2_with fail
    generalize W1.alloc (.cells #[.int .i64 v0, .int .i64 v1, .int .i64 v2, .int .i64 v3, .int .i64 v4] 25) = X1 at A1 D1 z0 z1 z2 z3 z4 s1 ⊢
    refine (IM.out _ (HE.out.below D1)).mono ?_
    rintro e2 W2 ⟨rfl, b2⟩
    have D2 := D1.trans (b2.mono D1.size)
    have y0 := (b2.cell (p := ⟨W1.heap.size, 0, none⟩) s1).trans z0
    have y1 := (b2.cell (p := ⟨W1.heap.size, 1, none⟩) s1).trans z1
    have y2 := (b2.cell (p := ⟨W1.heap.size, 2, none⟩) s1).trans z2
    have y3 := (b2.cell (p := ⟨W1.heap.size, 3, none⟩) s1).trans z3
    have y4 := (b2.cell (p := ⟨W1.heap.size, 4, none⟩) s1).trans z4
    have s2 : W1.heap.size < W2.heap.size := Nat.lt_of_lt_of_le s1 b2.size
    clear A1 b1 z0 z1 z2 z3 z4 b2 D1
    have A2 : Below W2.heap.size W2 (W2.alloc (.cells #[.int .i64 v0, .int .i64 v1, .int .i64 v2, .int .i64 v3, .int .i64 v4] 25)) := Below.alloc (Below.refl _ _) (Nat.le_refl _) _
    have D3 := D2.trans (A2.mono D2.size)
    go_wp2_with fail
    refine (eqWater_x _ _ _ _ _ _).mono ?_
    rintro e3 W3 ⟨rfl, b3⟩
    have D4 := D3.trans (b3.mono D3.size)
    clear b3 D3 A2 D2
    go_wp2
    go_ret
    exact ⟨rfl, D4⟩
  · go_enter Tryd.func4, Tryd.ntmps4
    go_wp2
    go_ret
    exact ⟨rfl, Below.refl _ _⟩


end Go.Proofs.YtfpfmfhhcgafcaaDoor
