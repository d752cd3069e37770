/- areGauges of the program, since areWithin: the world behind it, exactly. -/
import Derived.Test.YthfemghfkfmkdaaGreatDoorLevels
import Derived.Test.YthfemghfkfmkdaaGreatDoorAw
namespace Go.Proofs.YthfemghfkfmkdaaGreatDoor
open Go.RowKit

theorem areLevels_eq (A : Option Addr) (n c : Nat) (xs : List Int) (w : World) (hn : n ≤ 1048576) (ha : Rd w w.heap.size A n xs) (b : Bool) (hb : b = true ↔ allIn (-2000) 2000 n xs) :
    Calls Tryz.prog 66 #[.slice A n c] w fun e w' => e = .returned (.bool b) ∧ w' = ((w.alloc (.cells #[.int .i64 (-2000)] 2)).alloc (.cells #[.int .i64 2000] 2)).alloc (.cells #[.func (.func 91) #[] #[.pointer (some ⟨w.heap.size, 0, none⟩), .pointer (some ⟨w.heap.size + 1, 0, none⟩)]] 42) := by
  have HA := Lib.hid ha
  have HB := Lib.hid hb
  clear ha hb
  go_enter Tryz.func66, Tryz.ntmps66
  go_wp2_with (go_at_call 80; refine (aw_eq (-2000) 2000 _ _ _ xs _ hn HA.out b HB.out).mono ?_; rintro e1 w1 ⟨rfl, rfl⟩)
  go_ret
  exact ⟨rfl, rfl⟩

theorem areGauges_any (A : Option Addr) (n c : Nat) (xs : List Int) (w : World) (hn : n ≤ 1048576) (ha : Rd w w.heap.size A n xs) (b : Bool) (hb : b = true ↔ LvOk n xs) :
    Calls Tryz.prog 31 #[.slice A n c] w fun e w' => e = .returned (.bool b) ∧ w' = ((w.alloc (.cells #[.int .i64 (-2000)] 2)).alloc (.cells #[.int .i64 2000] 2)).alloc (.cells #[.func (.func 91) #[] #[.pointer (some ⟨w.heap.size, 0, none⟩), .pointer (some ⟨w.heap.size + 1, 0, none⟩)]] 42) := by
  have HA := Lib.hid ha
  obtain ⟨u, hu⟩ : ∃ u, u = decide (allIn (-2000) 2000 n xs) := ⟨_, rfl⟩
  have hU : u = true ↔ allIn (-2000) 2000 n xs := by rw [hu]; exact decide_eq_true_iff
  have HU := Lib.hid hU
  cases u
  · have e : b = false := by
      cases b
      · rfl
      · exact absurd (hU.2 (hb.1 rfl).1) (by simp)
    subst e
    clear ha hb hu hU
    go_enter Tryz.func31, Tryz.ntmps31
    go_wp2_with (go_at_call 66; refine (areLevels_eq _ _ _ xs _ hn HA.out false HU.out).mono ?_; rintro e1 w1 ⟨rfl, rfl⟩)
    go_ret
    exact ⟨rfl, rfl⟩
  · by_cases h60 : n ≤ 60
    · have e : b = true := hb.2 ⟨hU.1 rfl, h60⟩
      subst e
      have e9 : decide ((n : Int) ≤ 60) = true := by simp; omega
      have HU2 := Lib.hid (hU.1 rfl)
      clear ha hb hu hU HU
      go_enter Tryz.func31, Tryz.ntmps31
      go_wp2_with (go_at_call 66; refine (areLevels_eq _ _ _ xs _ hn HA.out true ⟨fun _ => HU2.out, fun _ => rfl⟩).mono ?_; rintro e1 w1 ⟨rfl, rfl⟩)
      go_ret
      exact ⟨rfl, rfl⟩
    · have e : b = false := by
        cases b
        · rfl
        · exact absurd (hb.1 rfl).2 h60
      subst e
      have e9 : decide ((n : Int) ≤ 60) = false := by simp; omega
      have HU2 := Lib.hid (hU.1 rfl)
      clear ha hb hu hU HU
      go_enter Tryz.func31, Tryz.ntmps31
      go_wp2_with (go_at_call 66; refine (areLevels_eq _ _ _ xs _ hn HA.out true ⟨fun _ => HU2.out, fun _ => rfl⟩).mono ?_; rintro e1 w1 ⟨rfl, rfl⟩)
      go_ret
      exact ⟨rfl, rfl⟩

end Go.Proofs.YthfemghfkfmkdaaGreatDoor
