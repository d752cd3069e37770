/- The law of ReadLevel. -/
import Derived.Test.YtnjbfolgcklcdaaDoorReadK
import Derived.Test.YtnjbfolgcklcdaaDoorWFnExactReadDecimal
import Derived.Shelf.Vars
namespace Go.Proofs.YtnjbfolgcklcdaaDoor
open Go.RowKit

theorem lv_res (s : ByteArray) : ∃ res : Option Int, ∀ n, res = some n ↔ isLv n ∧ s = levelB n := by
  by_cases h : ∃ n, isLv n ∧ s = levelB n
  · obtain ⟨n, hn⟩ := h
    refine ⟨some n, fun m => ⟨fun e => by injection e with e; exact e ▸ hn, fun hm => ?_⟩⟩
    have k1 := lv_form hn.1 hn.2
    have k2 := lv_form hm.1 hm.2
    obtain ⟨e1, e2, e3, e4⟩ := k1.inj k2
    have t1 := ofNat_dig (n.natAbs % 100 / 10) (by omega)
    have t2 := ofNat_dig (n.natAbs % 10) (by omega)
    have u1 := ofNat_dig (m.natAbs % 100 / 10) (by omega)
    have u2 := ofNat_dig (m.natAbs % 10) (by omega)
    rw [e3] at t1
    rw [e4] at t2
    have ha : n.natAbs = m.natAbs := by omega
    have hs : (n < 0) ↔ (m < 0) := by
      by_cases a : n < 0
      · by_cases b : m < 0
        · exact ⟨fun _ => b, fun _ => a⟩
        · rw [if_pos a, if_neg b] at e1; exact absurd e1 (by decide)
      · by_cases b : m < 0
        · rw [if_neg a, if_pos b] at e1; exact absurd e1 (by decide)
        · exact ⟨fun h => absurd h a, fun h => absurd h b⟩
    congr 1
    by_cases a : n < 0
    · have b := hs.1 a; omega
    · have b : ¬ m < 0 := fun h => a (hs.2 h)
      omega
  · exact ⟨none, fun m => ⟨fun e => by simp at e, fun hm => absurd ⟨m, hm⟩ h⟩⟩

theorem ml_of {w : World} (hsh : w.ShapedOpen Tryd.prog) : ∃ m, w.cell? ⟨0, 0, none⟩ = some (.int .i64 m) :=
  Go.Proofs.cell_of_shapedOpen_int (P := Tryd.prog) (g := 0) (t := 3) (zero := #[.int .i64 0]) hsh (of_decide_eq_true (by kernel_rfl)) (by kernel_rfl) rfl (by kernel_rfl) (by kernel_rfl) Tryd.underlying3

set_option maxHeartbeats 400000 in
theorem walk_FnExactReadLevel (a0 : ByteArray) (w : World) (w0 : a0.size ≤ maxLen) (hL : laidMetH Tryd.prog Rows.fnExactReadLevelRow.laid w) (hml : ∃ m, w.cell? ⟨0, 0, none⟩ = some (.int .i64 m)) :
    Calls Tryd.prog 3 #[.string a0] w fun e w' => e = .returned (.bool true) ∧ Below w.heap.size w w' := by
  rw [MakeChecks.laidMetH_plain _ _ _ (by kernel_rfl)] at hL
  have env : NumEnv w := ⟨pow_of_laid hL (.tail _ (.tail _ (.head _))),
    err_of_laid hL (.tail _ (.tail _ (.tail _ (.tail _ (.head _))))) (by kernel_rfl) (t := 45) (by kernel_rfl) Tryd.underlying45 ⟨_, _, rfl⟩,
    err_of_laid hL (.tail _ (.tail _ (.tail _ (.head _)))) (by kernel_rfl) (t := 45) (by kernel_rfl) Tryd.underlying45 ⟨_, _, rfl⟩⟩
  obtain ⟨ml, hm⟩ := hml
  have hg : 0 < w.heap.size := World.block_lt_of_cell? _ _ hm
  have HE := Lib.hid env
  have HM := Lib.hid hm
  have HG := Lib.hid hg
  clear hL env hm hg
  unfold maxLen at w0
  by_cases hn : a0.size ≤ 1048576
  · obtain ⟨res, hres⟩ := lv_res a0
    have HR := Lib.hid hres
    have e1 : (res.getD 0 != res.getD 0) = false := by simp
    have e2 : (res.isSome != res.isSome) = false := by simp
    clear hres
    go_enter Tryd.func3, Tryd.ntmps3
    go_wp2_with (first
      | (go_at_call 4; refine (rl_spec _ _ hn _ HR.out).mono ?_; rintro e w1 ⟨rfl, b1⟩)
      | (go_at_call 5; refine (rl_impl _ _ hn (HE.out.below b1) ml ((b1.cell (p := ⟨0, 0, none⟩) HG.out).trans HM.out) _ HR.out).mono ?_; rintro e w2 ⟨rfl, b2⟩)
      | go_in)
    go_ret
    exact ⟨rfl, b1.trans (b2.mono b1.size)⟩
  · go_enter Tryd.func3, Tryd.ntmps3
    go_wp2
    go_ret
    exact ⟨rfl, Below.refl _ _⟩


end Go.Proofs.YtnjbfolgcklcdaaDoor
