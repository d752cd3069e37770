/- Floods: the codes; the cells that are wet: of the model and of the program. -/
import Derived.Test.YthnioohiceohkaaPoolI
import Derived.Test.YthnioohiceohkaaPoolS
import Derived.Deep.RegionHeld3
namespace Go.Proofs.Ythnioohiceohkaa
open Go.RowKit

def flP (n x lv : Int) : Prop := inC n x ∧ lvl lv
instance (n x : Int) : Decidable (inC n x) := by unfold inC; exact inferInstance
instance (n x lv : Int) : Decidable (flP n x lv) := by unfold flP lvl inC; exact inferInstance
/-- the cells that are flooded from a cell at a level -/
def wetB (r c lv : Int) (xs : List Int) (n x : Nat) : Nat → Bool := if xs.getD x 0 < lv then wetN r c lv xs n x else fun _ => false

set_option maxHeartbeats 800000 in
theorem l11Cell_t (b : Nat) (r c : Int) (A : Option Addr) (n k : Nat) (xs : List Int) (x : Int) (w : World) (hn : n ≤ 1048576) (hl : LandAt w b r c A n k) (ha : Rd w w.heap.size A n xs) (C : Int) (hC : lcode r c xs (inC n x) = C) :
    Calls Try.prog 26 #[.pointer (some ⟨b, 0, none⟩), .int .i64 x] w fun e w' => e = .returned (.int .i64 C) ∧ ∃ m, w.drewN m = w' := by
  have HA := Lib.hid ha
  have HL := Lib.hid hl
  by_cases hv : LandOk r c xs
  · have HV := Lib.hid (show true = true ↔ LandOk r c xs from iff_of_true rfl hv)
    obtain ⟨c0, c1, c2⟩ := hl
    by_cases hp : inC n x
    · obtain rfl : C = 0 := by rw [← hC]; exact lcode_ok hv hp
      obtain ⟨p1, p2⟩ := id hp
      clear hC hv ha hp
      go_enter Try.func26, Try.ntmps26
      go_wp2_with (first | (go_at_call 53; refine (l03Ok_any b r c A n k xs _ hn HL.out HA.out true (iff_of_true rfl (HV.out.1 rfl))).mono ?_; rintro e1 w1 ⟨rfl, m1, rfl⟩) | (go_at_call 27; first | (refine (in_t _ _ _ _ (by omega)).mono ?_; rintro e w' ⟨rfl, rfl⟩) | (refine (in_f _ _ _ _ (by omega)).mono ?_; rintro e w' ⟨rfl, rfl⟩)))
      go_ret
      exact ⟨rfl, m1, rfl⟩
    · obtain rfl : C = 2 := by rw [← hC]; exact lcode_no hv hp
      have hp' : x < 0 ∨ (n : Int) - 1 < x := by unfold inC at hp; omega
      clear hC hv ha hp
      go_enter Try.func26, Try.ntmps26
      go_wp2_with (first | (go_at_call 53; refine (l03Ok_any b r c A n k xs _ hn HL.out HA.out true (iff_of_true rfl (HV.out.1 rfl))).mono ?_; rintro e1 w1 ⟨rfl, m1, rfl⟩) | (go_at_call 27; first | (refine (in_t _ _ _ _ (by omega)).mono ?_; rintro e w' ⟨rfl, rfl⟩) | (refine (in_f _ _ _ _ (by omega)).mono ?_; rintro e w' ⟨rfl, rfl⟩)))
      go_ret
      exact ⟨rfl, m1, rfl⟩
  · obtain rfl : C = 1 := by rw [← hC]; exact lcode_bad hv
    have HV := Lib.hid hv
    clear hC hv ha hl
    go_enter Try.func26, Try.ntmps26
    go_wp2_with (first | (go_at_call 53; refine (l03Ok_any b r c A n k xs _ hn HL.out HA.out false ⟨fun h => by simp at h, fun h => absurd h HV.out⟩).mono ?_; rintro e1 w1 ⟨rfl, m1, rfl⟩))
    go_ret
    exact ⟨rfl, m1, rfl⟩

set_option maxHeartbeats 800000 in
theorem l11Code_t (b : Nat) (r c : Int) (A : Option Addr) (n k : Nat) (xs : List Int) (x lv : Int) (w : World) (hn : n ≤ 1048576) (hl : LandAt w b r c A n k) (ha : Rd w w.heap.size A n xs) (C : Int) (hC : lcode r c xs (flP n x lv) = C) :
    Calls Try.prog 58 #[.pointer (some ⟨b, 0, none⟩), .int .i64 x, .int .i64 lv] w fun e w' => e = .returned (.int .i64 C) ∧ ∃ m, w.drewN m = w' := by
  have HA := Lib.hid ha
  have HL := Lib.hid hl
  clear ha hl
  by_cases hv : LandOk r c xs ∧ inC n x
  · have HC0 := Lib.hid (show lcode r c xs (inC n x) = 0 from lcode_ok hv.1 hv.2)
    by_cases hp : lvl lv
    · obtain rfl : C = 0 := by rw [← hC]; exact lcode_ok hv.1 ⟨hv.2, hp⟩
      clear hC hv
      go_enter Try.func58, Try.ntmps58
      go_wp2_with (first | (go_at_call 26; refine (l11Cell_t b r c A n k xs x _ hn HL.out HA.out 0 HC0.out).mono ?_; rintro e1 w1 ⟨rfl, m1, rfl⟩) | (go_at_call 68; refine (l02Level_t _ _ hp).mono ?_; rintro e2 w2 ⟨rfl, rfl⟩))
      go_ret
      exact ⟨rfl, m1, rfl⟩
    · obtain rfl : C = 2 := by rw [← hC]; exact lcode_no hv.1 (fun h => hp h.2)
      clear hC hv
      go_enter Try.func58, Try.ntmps58
      go_wp2_with (first | (go_at_call 26; refine (l11Cell_t b r c A n k xs x _ hn HL.out HA.out 0 HC0.out).mono ?_; rintro e1 w1 ⟨rfl, m1, rfl⟩) | (go_at_call 68; refine (l02Level_f _ _ hp).mono ?_; rintro e2 w2 ⟨rfl, rfl⟩))
      go_ret
      exact ⟨rfl, m1, rfl⟩
  · have e1 : lcode r c xs (flP n x lv) = lcode r c xs (inC n x) := lcode_and hv
    have hne := lcode_ne hv
    rw [e1] at hC
    rw [hC] at hne
    have hne' : (C == 0) = false := by simpa using hne
    have HC0 := Lib.hid hC
    clear hC hv e1 hne
    go_enter Try.func58, Try.ntmps58
    go_wp2_with (first | (go_at_call 26; refine (l11Cell_t b r c A n k xs x _ hn HL.out HA.out C HC0.out).mono ?_; rintro e1 w1 ⟨rfl, m1, rfl⟩))
    go_ret
    exact ⟨rfl, m1, rfl⟩
end Go.Proofs.Ythnioohiceohkaa
