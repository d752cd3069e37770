/- The law of ReadLevel. -/
import Derived.Test.YtkbbflleonkjfaaGreatDoorReadK
import Derived.Test.YtkbbflleonkjfaaGreatDoorWFnExactReadDecimal
import Derived.Shelf.Vars
namespace Go.Proofs.YtkbbflleonkjfaaGreatDoor
open Go.RowKit

theorem lv_res (s : ByteArray) : ∃ res : Option Int, ∀ n, res = some n ↔ isLv n ∧ s = levelB n := by
  by_cases h : ∃ n, isLv n ∧ s = levelB n
  · obtain ⟨n, hn⟩ := h
    refine ⟨some n, fun m => ⟨fun e => by injection e with e; exact e ▸ hn, fun hm => ?_⟩⟩
    have k1 := lv_form hn.1 hn.2
    have k2 := lv_form hm.1 hm.2
    obtain ⟨e1, e2, e3, e4⟩ := k1.inj k2
    have t1 := ofNat_dig (n.natAbs % 100 / 10) (by omega)
    have t2 := ofNat_dig (n.natAbs % 10) (by omega)
    have u1 := ofNat_dig (m.natAbs % 100 / 10) (by omega)
    have u2 := ofNat_dig (m.natAbs % 10) (by omega)
    rw [e3] at t1
    rw [e4] at t2
    have ha : n.natAbs = m.natAbs := by omega
    have hs : (n < 0) ↔ (m < 0) := by
      by_cases a : n < 0
      · by_cases b : m < 0
        · exact ⟨fun _ => b, fun _ => a⟩
        · rw [if_pos a, if_neg b] at e1; exact absurd e1 (by decide)
      · by_cases b : m < 0
        · rw [if_neg a, if_pos b] at e1; exact absurd e1 (by decide)
        · exact ⟨fun h => absurd h a, fun h => absurd h b⟩
    congr 1
    by_cases a : n < 0
    · have b := hs.1 a; omega
    · have b : ¬ m < 0 := fun h => a (hs.2 h)
      omega
  · exact ⟨none, fun m => ⟨fun e => by simp at e, fun hm => absurd ⟨m, hm⟩ h⟩⟩

theorem ml_of {w : World} (hsh : w.ShapedOpen Tryz.prog) : ∃ m, w.cell? ⟨1, 0, none⟩ = some (.int .i64 m) :=
  Go.Proofs.cell_of_shapedOpen_int (P := Tryz.prog) (g := 1) (t := 3) (zero := #[.int .i64 0]) hsh (of_decide_eq_true (by kernel_rfl)) (by kernel_rfl) rfl (by kernel_rfl) (by kernel_rfl) Tryz.underlying3


end Go.Proofs.YtkbbflleonkjfaaGreatDoor
