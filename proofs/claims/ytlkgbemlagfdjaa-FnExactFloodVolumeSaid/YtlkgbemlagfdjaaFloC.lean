/- Floods: the codes; the cells that are wet: of the model and of the program. -/
import Derived.Test.YtlkgbemlagfdjaaPoolI
import Derived.Test.YtlkgbemlagfdjaaPoolS
import Derived.Deep.RegionHeld3
namespace Go.Proofs.Ytlkgbemlagfdjaa
open Go.RowKit

def flP (n x lv : Int) : Prop := inC n x ∧ lvl lv
instance (n x : Int) : Decidable (inC n x) := by unfold inC; exact inferInstance
instance (n x lv : Int) : Decidable (flP n x lv) := by unfold flP lvl inC; exact inferInstance
/-- the cells that are flooded from a cell at a level -/
def wetB (r c lv : Int) (xs : List Int) (n x : Nat) : Nat → Bool := if xs.getD x 0 < lv then wetN r c lv xs n x else fun _ => false

set_option maxHeartbeats 800000 in
theorem l11Cell_t (b : Nat) (r c : Int) (A : Option Addr) (n k : Nat) (xs : List Int) (x : Int) (w : World) (hn : n ≤ 1048576) (hl : LandAt w b r c A n k) (ha : Rd w w.heap.size A n xs) (C : Int) (hC : lcode r c xs (inC n x) = C) :
    Calls Try.prog 98 #[.pointer (some ⟨b, 0, none⟩), .int .i64 x] w fun e w' => e = .returned (.int .i64 C) ∧ ∃ m, w.drewN m = w' := by
  have HA := Lib.hid ha
  have HL := Lib.hid hl
  by_cases hv : LandOk r c xs
  · have HV := Lib.hid (show true = true ↔ LandOk r c xs from iff_of_true rfl hv)
    obtain ⟨c0, c1, c2⟩ := hl
    by_cases hp : inC n x
    · obtain rfl : C = 0 := by rw [← hC]; exact lcode_ok hv hp
      obtain ⟨p1, p2⟩ := id hp
      clear hC hv ha hp
      go_enter Try.func98, Try.ntmps98
      go_wp2_with (first | (go_at_call 109; refine (l03Ok_any b r c A n k xs _ hn HL.out HA.out true (iff_of_true rfl (HV.out.1 rfl))).mono ?_; rintro e1 w1 ⟨rfl, m1, rfl⟩) | (go_at_call 91; first | (refine (in_t _ _ _ _ (by omega)).mono ?_; rintro e w' ⟨rfl, rfl⟩) | (refine (in_f _ _ _ _ (by omega)).mono ?_; rintro e w' ⟨rfl, rfl⟩)))
      go_ret
      exact ⟨rfl, m1, rfl⟩
    · obtain rfl : C = 2 := by rw [← hC]; exact lcode_no hv hp
      have hp' : x < 0 ∨ (n : Int) - 1 < x := by unfold inC at hp; omega
      clear hC hv ha hp
      go_enter Try.func98, Try.ntmps98
      go_wp2_with (first | (go_at_call 109; refine (l03Ok_any b r c A n k xs _ hn HL.out HA.out true (iff_of_true rfl (HV.out.1 rfl))).mono ?_; rintro e1 w1 ⟨rfl, m1, rfl⟩) | (go_at_call 91; first | (refine (in_t _ _ _ _ (by omega)).mono ?_; rintro e w' ⟨rfl, rfl⟩) | (refine (in_f _ _ _ _ (by omega)).mono ?_; rintro e w' ⟨rfl, rfl⟩)))
      go_ret
      exact ⟨rfl, m1, rfl⟩
  · obtain rfl : C = 1 := by rw [← hC]; exact lcode_bad hv
    have HV := Lib.hid hv
    clear hC hv ha hl
    go_enter Try.func98, Try.ntmps98
    go_wp2_with (first | (go_at_call 109; refine (l03Ok_any b r c A n k xs _ hn HL.out HA.out false ⟨fun h => by simp at h, fun h => absurd h HV.out⟩).mono ?_; rintro e1 w1 ⟨rfl, m1, rfl⟩))
    go_ret
    exact ⟨rfl, m1, rfl⟩

set_option maxHeartbeats 800000 in
theorem l11Code_t (b : Nat) (r c : Int) (A : Option Addr) (n k : Nat) (xs : List Int) (x lv : Int) (w : World) (hn : n ≤ 1048576) (hl : LandAt w b r c A n k) (ha : Rd w w.heap.size A n xs) (C : Int) (hC : lcode r c xs (flP n x lv) = C) :
    Calls Try.prog 78 #[.pointer (some ⟨b, 0, none⟩), .int .i64 x, .int .i64 lv] w fun e w' => e = .returned (.int .i64 C) ∧ ∃ m, w.drewN m = w' := by
  have HA := Lib.hid ha
  have HL := Lib.hid hl
  clear ha hl
  by_cases hv : LandOk r c xs ∧ inC n x
  · have HC0 := Lib.hid (show lcode r c xs (inC n x) = 0 from lcode_ok hv.1 hv.2)
    by_cases hp : lvl lv
    · obtain rfl : C = 0 := by rw [← hC]; exact lcode_ok hv.1 ⟨hv.2, hp⟩
      clear hC hv
      go_enter Try.func78, Try.ntmps78
      go_wp2_with (first | (go_at_call 98; refine (l11Cell_t b r c A n k xs x _ hn HL.out HA.out 0 HC0.out).mono ?_; rintro e1 w1 ⟨rfl, m1, rfl⟩) | (go_at_call 99; refine (l02Level_t _ _ hp).mono ?_; rintro e2 w2 ⟨rfl, rfl⟩))
      go_ret
      exact ⟨rfl, m1, rfl⟩
    · obtain rfl : C = 2 := by rw [← hC]; exact lcode_no hv.1 (fun h => hp h.2)
      clear hC hv
      go_enter Try.func78, Try.ntmps78
      go_wp2_with (first | (go_at_call 98; refine (l11Cell_t b r c A n k xs x _ hn HL.out HA.out 0 HC0.out).mono ?_; rintro e1 w1 ⟨rfl, m1, rfl⟩) | (go_at_call 99; refine (l02Level_f _ _ hp).mono ?_; rintro e2 w2 ⟨rfl, rfl⟩))
      go_ret
      exact ⟨rfl, m1, rfl⟩
  · have e1 : lcode r c xs (flP n x lv) = lcode r c xs (inC n x) := lcode_and hv
    have hne := lcode_ne hv
    rw [e1] at hC
    rw [hC] at hne
    have hne' : (C == 0) = false := by simpa using hne
    have HC0 := Lib.hid hC
    clear hC hv e1 hne
    go_enter Try.func78, Try.ntmps78
    go_wp2_with (first | (go_at_call 98; refine (l11Cell_t b r c A n k xs x _ hn HL.out HA.out C HC0.out).mono ?_; rintro e1 w1 ⟨rfl, m1, rfl⟩))
    go_ret
    exact ⟨rfl, m1, rfl⟩

set_option maxRecDepth 100000 in
set_option maxHeartbeats 800000 in
theorem floodCode_t (r c : Int) (A : Option Addr) (n k : Nat) (xs : List Int) (x lv : Int) (w : World) (hn : n ≤ 1048576) (hln : xs.length = n) (ha : Rd w w.heap.size A n xs) (C : Int) (hC : lcode r c xs (flP n x lv) = C) :
    Calls Try.prog 82 #[.agg #[.int .i64 r, .int .i64 c, .slice A n k], .int .i64 x, .int .i64 lv] w fun e w' => e = .returned (.int .i64 C) ∧ Below w.heap.size w w' := by
  have HA := Lib.hid ha
  have HC0 := Lib.hid hC
  clear ha hC
  cases hi : decide (inC n x) with
  | true =>
    have HI := Lib.hid hi
    obtain ⟨L, hL⟩ : ∃ L, L = decide (lvl lv) := ⟨_, rfl⟩
    have HLv := Lib.hid hL
    have HP := Lib.hid (show LandOk r c xs → L = decide (flP n x lv) from fun _ => by rw [hL]; exact decide_eq_decide.2 ⟨fun h => ⟨of_decide_eq_true hi, h⟩, fun h => h.2⟩)
    clear hi hL
    go_enter Try.func82, Try.ntmps82
    go_wp2_with fail
    refine wp_region_held_drew (S := fun w' => w'.cell? ⟨w.heap.size, 0, none⟩ = some (.int .i64 r) ∧ w'.cell? ⟨w.heap.size, 1, none⟩ = some (.int .i64 c) ∧ w'.cell? ⟨w.heap.size, 2, none⟩ = some (.slice A n k)) (by kernel_rfl) ⟨by simp, by simp, by simp⟩ (fun hHeld => ?_)
    ((refine wpAnyH_take (i := 0) (oi := ⟨some 7, _, _, _, _, _⟩) (v := ?_) rfl (by kernel_rfl) (by kernel_rfl) (by kernel_rfl) (fun _ _ _ h => h) (Or.inl ⟨by rfl, ?_⟩) (by assumption) ?_; rotate_left 1; (focus (intro w hSw; (try dsimp only at hSw); go_simp <;> try (first | (with_reducible rfl) | (rw [if_neg (by omega)])))); try simp only [Act.put, List.setIfInBounds_toArray, List.set_cons_zero, List.set_cons_succ]); (refine wpAnyH_take (i := 1) (oi := ⟨some 8, _, _, _, _, _⟩) (v := ?_) rfl (by kernel_rfl) (by kernel_rfl) (by kernel_rfl) (fun _ _ _ h => h) (Or.inl ⟨by rfl, ?_⟩) (by assumption) ?_; rotate_left 1; (focus (intro w hSw; (try dsimp only at hSw); go_simp <;> try (first | (with_reducible rfl) | (rw [if_neg (by omega)])))); try simp only [Act.put, List.setIfInBounds_toArray, List.set_cons_zero, List.set_cons_succ]); (refine wpAnyH_take (i := 2) (oi := ⟨some 9, _, _, _, _, _⟩) (v := ?_) rfl (by kernel_rfl) (by kernel_rfl) (by kernel_rfl) (fun _ _ _ h => h) (Or.inl ⟨by rfl, ?_⟩) (by assumption) ?_; rotate_left 1; (focus (intro w hSw; (try dsimp only at hSw); go_simp <;> try (first | (with_reducible rfl) | (rw [if_neg (by omega)])))); try simp only [Act.put, List.setIfInBounds_toArray, List.set_cons_zero, List.set_cons_succ]))
    (refine wpAnyH_ready (rs := [3]) (by kernel_rfl) (by simp) ?_; refine AllReadyH.cons rfl (fun K hK => ?_) AllReadyH.nil; go_simp)
    refine (hasCell_t _ _ _ n _ x _ hn true HI.out).mono ?_
    rintro ea Wa ⟨rfl, ba⟩
    have q00 := (ba.cell (p := ⟨w.heap.size, 0, none⟩) (by first | omega | (simp; done) | (simp; omega))).trans hHeld.1
    have q01 := (ba.cell (p := ⟨w.heap.size, 1, none⟩) (by first | omega | (simp; done) | (simp; omega))).trans hHeld.2.1
    have q02 := (ba.cell (p := ⟨w.heap.size, 2, none⟩) (by first | omega | (simp; done) | (simp; omega))).trans hHeld.2.2
    have Ga : w.heap.size < Wa.heap.size := (by have := ba.size; (try simp at this); omega)
    have Da : Below w.heap.size w Wa := (by repeat (first | assumption | exact Below.refl _ _ | (refine Below.trans ?_ (ba.mono (by first | omega | (simp; done) | (simp; omega)))) | (refine Below.setCell ?_ (by first | omega | (simp; done) | (simp; omega)) _) | apply below_drewN | apply Below.drew | (refine Below.alloc ?_ (by first | omega | (simp; done) | (simp; omega)) _)))
    clear hHeld
    (refine hK.out _ _ ?_ (fun hHeld => ?_))
    · exact ⟨q00, q01, q02⟩
    ((refine wpAnyH_take (i := 4) (oi := ⟨some 11, _, _, _, _, _⟩) (v := ?_) rfl (by kernel_rfl) (by kernel_rfl) (by kernel_rfl) (fun _ _ _ h => h) (Or.inl ⟨by rfl, ?_⟩) (by assumption) ?_; rotate_left 1; (focus (intro w hSw; (try dsimp only at hSw); go_simp <;> try (first | (with_reducible rfl) | (rw [if_neg (by omega)])))); try simp only [Act.put, List.setIfInBounds_toArray, List.set_cons_zero, List.set_cons_succ]); (refine wpAnyH_take (i := 5) (oi := ⟨some 12, _, _, _, _, _⟩) (v := ?_) rfl (by kernel_rfl) (by kernel_rfl) (by kernel_rfl) (fun _ _ _ h => h) (Or.inl ⟨by rfl, ?_⟩) (by assumption) ?_; rotate_left 1; (focus (intro w hSw; (try dsimp only at hSw); go_simp <;> try (first | (with_reducible rfl) | (rw [if_neg (by omega)])))); try simp only [Act.put, List.setIfInBounds_toArray, List.set_cons_zero, List.set_cons_succ]))
    (refine wpAnyH_ready (rs := [6]) (by kernel_rfl) (by simp) ?_; refine AllReadyH.cons rfl (fun K hK => ?_) AllReadyH.nil; go_simp)
    refine (level_any lv _).mono ?_
    rintro eb Wb ⟨rfl, rfl⟩
    rw [← HLv.out]
    have hKeep := hHeld
    clear hHeld
    (refine hK.out _ _ ?_ (fun hHeld => ?_))
    · exact hKeep
    ((refine wpAnyH_take (i := 7) (oi := ⟨some 14, _, _, _, _, _⟩) (v := ?_) rfl (by kernel_rfl) (by kernel_rfl) (by kernel_rfl) (fun _ _ _ h => h) (Or.inl ⟨by rfl, ?_⟩) (by assumption) ?_; rotate_left 1; (focus (intro w hSw; (try dsimp only at hSw); go_simp <;> try (first | (with_reducible rfl) | (rw [if_neg (by omega)])))); try simp only [Act.put, List.setIfInBounds_toArray, List.set_cons_zero, List.set_cons_succ]))
    (refine wpAnyH_ready (rs := [8]) (by kernel_rfl) (by simp) ?_; refine AllReadyH.cons rfl (fun K hK => ?_) AllReadyH.nil; go_simp)
    refine (landCode_t r c A n k xs L (flP n x lv) _ hn ((HA.out.below (by repeat (first | assumption | exact Below.refl _ _ | (refine Below.trans ?_ (Da.mono (by first | omega | (simp; done) | (simp; omega)))) | (refine Below.setCell ?_ (by first | omega | (simp; done) | (simp; omega)) _) | apply below_drewN | apply Below.drew | (refine Below.alloc ?_ (by first | omega | (simp; done) | (simp; omega)) _)))).mono (by first | omega | (simp; done) | (simp; omega))) HP.out).mono ?_
    rintro ec Wc ⟨rfl, bc⟩
    rw [HC0.out]
    have q10 := (bc.cell (p := ⟨w.heap.size, 0, none⟩) (by first | omega | (simp; done) | (simp; omega))).trans hHeld.1
    have q11 := (bc.cell (p := ⟨w.heap.size, 1, none⟩) (by first | omega | (simp; done) | (simp; omega))).trans hHeld.2.1
    have q12 := (bc.cell (p := ⟨w.heap.size, 2, none⟩) (by first | omega | (simp; done) | (simp; omega))).trans hHeld.2.2
    have Dc : Below w.heap.size w Wc := (by repeat (first | assumption | exact Below.refl _ _ | (refine Below.trans ?_ (bc.mono (by first | omega | (simp; done) | (simp; omega)))) | (refine Below.trans ?_ (Da.mono (by first | omega | (simp; done) | (simp; omega)))) | (refine Below.setCell ?_ (by first | omega | (simp; done) | (simp; omega)) _) | apply below_drewN | apply Below.drew | (refine Below.alloc ?_ (by first | omega | (simp; done) | (simp; omega)) _)))
    clear hHeld
    (refine hK.out _ _ ?_ (fun hHeld => ?_))
    · exact ⟨q10, q11, q12⟩
    ((refine wpAnyH_take (i := 9) (oi := ⟨some 6, _, _, _, _, _⟩) (v := ?_) rfl (by kernel_rfl) (by kernel_rfl) (by kernel_rfl) (fun _ _ _ h => h) (Or.inl ⟨by rfl, ?_⟩) (by assumption) ?_; rotate_left 1; (focus (intro w hSw; (try dsimp only at hSw); go_simp <;> try (first | (with_reducible rfl) | (rw [if_neg (by omega)])))); try simp only [Act.put, List.setIfInBounds_toArray, List.set_cons_zero, List.set_cons_succ]))
    refine wpAnyH_done (by kernel_rfl) ?_ _
    go_wp2
    go_ret
    exact ⟨rfl, Dc⟩
  | false =>
    have HI := Lib.hid hi
    have HP := Lib.hid (show LandOk r c xs → false = decide (flP n x lv) from fun _ => (decide_eq_false (fun h => of_decide_eq_false hi h.1)).symm)
    clear hi
    go_enter Try.func82, Try.ntmps82
    go_wp2_with fail
    refine wp_region_held_drew (S := fun w' => w'.cell? ⟨w.heap.size, 0, none⟩ = some (.int .i64 r) ∧ w'.cell? ⟨w.heap.size, 1, none⟩ = some (.int .i64 c) ∧ w'.cell? ⟨w.heap.size, 2, none⟩ = some (.slice A n k)) (by kernel_rfl) ⟨by simp, by simp, by simp⟩ (fun hHeld => ?_)
    ((refine wpAnyH_take (i := 0) (oi := ⟨some 7, _, _, _, _, _⟩) (v := ?_) rfl (by kernel_rfl) (by kernel_rfl) (by kernel_rfl) (fun _ _ _ h => h) (Or.inl ⟨by rfl, ?_⟩) (by assumption) ?_; rotate_left 1; (focus (intro w hSw; (try dsimp only at hSw); go_simp <;> try (first | (with_reducible rfl) | (rw [if_neg (by omega)])))); try simp only [Act.put, List.setIfInBounds_toArray, List.set_cons_zero, List.set_cons_succ]); (refine wpAnyH_take (i := 1) (oi := ⟨some 8, _, _, _, _, _⟩) (v := ?_) rfl (by kernel_rfl) (by kernel_rfl) (by kernel_rfl) (fun _ _ _ h => h) (Or.inl ⟨by rfl, ?_⟩) (by assumption) ?_; rotate_left 1; (focus (intro w hSw; (try dsimp only at hSw); go_simp <;> try (first | (with_reducible rfl) | (rw [if_neg (by omega)])))); try simp only [Act.put, List.setIfInBounds_toArray, List.set_cons_zero, List.set_cons_succ]); (refine wpAnyH_take (i := 2) (oi := ⟨some 9, _, _, _, _, _⟩) (v := ?_) rfl (by kernel_rfl) (by kernel_rfl) (by kernel_rfl) (fun _ _ _ h => h) (Or.inl ⟨by rfl, ?_⟩) (by assumption) ?_; rotate_left 1; (focus (intro w hSw; (try dsimp only at hSw); go_simp <;> try (first | (with_reducible rfl) | (rw [if_neg (by omega)])))); try simp only [Act.put, List.setIfInBounds_toArray, List.set_cons_zero, List.set_cons_succ]))
    (refine wpAnyH_ready (rs := [3]) (by kernel_rfl) (by simp) ?_; refine AllReadyH.cons rfl (fun K hK => ?_) AllReadyH.nil; go_simp)
    refine (hasCell_t _ _ _ n _ x _ hn false HI.out).mono ?_
    rintro ea Wa ⟨rfl, ba⟩
    have q00 := (ba.cell (p := ⟨w.heap.size, 0, none⟩) (by first | omega | (simp; done) | (simp; omega))).trans hHeld.1
    have q01 := (ba.cell (p := ⟨w.heap.size, 1, none⟩) (by first | omega | (simp; done) | (simp; omega))).trans hHeld.2.1
    have q02 := (ba.cell (p := ⟨w.heap.size, 2, none⟩) (by first | omega | (simp; done) | (simp; omega))).trans hHeld.2.2
    have Ga : w.heap.size < Wa.heap.size := (by have := ba.size; (try simp at this); omega)
    have Da : Below w.heap.size w Wa := (by repeat (first | assumption | exact Below.refl _ _ | (refine Below.trans ?_ (ba.mono (by first | omega | (simp; done) | (simp; omega)))) | (refine Below.setCell ?_ (by first | omega | (simp; done) | (simp; omega)) _) | apply below_drewN | apply Below.drew | (refine Below.alloc ?_ (by first | omega | (simp; done) | (simp; omega)) _)))
    clear hHeld
    (refine hK.out _ _ ?_ (fun hHeld => ?_))
    · exact ⟨q00, q01, q02⟩
    ((refine wpAnyH_take (i := 4) (oi := ⟨some 11, _, _, _, _, _⟩) (v := ?_) rfl (by kernel_rfl) (by kernel_rfl) (by kernel_rfl) (fun _ _ _ h => h) (Or.inl ⟨by rfl, ?_⟩) (by assumption) ?_; rotate_left 1; (focus (intro w hSw; (try dsimp only at hSw); go_simp <;> try (first | (with_reducible rfl) | (rw [if_neg (by omega)])))); try simp only [Act.put, List.setIfInBounds_toArray, List.set_cons_zero, List.set_cons_succ]); (refine wpAnyH_take (i := 5) (oi := ⟨some 12, _, _, _, _, _⟩) (v := undef) rfl (by kernel_rfl) (by kernel_rfl) (by kernel_rfl) (fun _ _ _ h => h) (Or.inr ⟨by rfl, rfl⟩) (by assumption) ?_; try simp only [Act.put, List.setIfInBounds_toArray, List.set_cons_zero, List.set_cons_succ]); (refine wpAnyH_take (i := 6) (oi := ⟨some 13, _, _, _, _, _⟩) (v := undef) rfl (by kernel_rfl) (by kernel_rfl) (by kernel_rfl) (fun _ _ _ h => h) (Or.inr ⟨by rfl, rfl⟩) (by assumption) ?_; try simp only [Act.put, List.setIfInBounds_toArray, List.set_cons_zero, List.set_cons_succ]); (refine wpAnyH_take (i := 7) (oi := ⟨some 14, _, _, _, _, _⟩) (v := ?_) rfl (by kernel_rfl) (by kernel_rfl) (by kernel_rfl) (fun _ _ _ h => h) (Or.inl ⟨by rfl, ?_⟩) (by assumption) ?_; rotate_left 1; (focus (intro w hSw; (try dsimp only at hSw); go_simp <;> try (first | (with_reducible rfl) | (rw [if_neg (by omega)])))); try simp only [Act.put, List.setIfInBounds_toArray, List.set_cons_zero, List.set_cons_succ]))
    (refine wpAnyH_ready (rs := [8]) (by kernel_rfl) (by simp) ?_; refine AllReadyH.cons rfl (fun K hK => ?_) AllReadyH.nil; go_simp)
    refine (landCode_t r c A n k xs false (flP n x lv) _ hn ((HA.out.below (by repeat (first | assumption | exact Below.refl _ _ | (refine Below.trans ?_ (Da.mono (by first | omega | (simp; done) | (simp; omega)))) | (refine Below.setCell ?_ (by first | omega | (simp; done) | (simp; omega)) _) | apply below_drewN | apply Below.drew | (refine Below.alloc ?_ (by first | omega | (simp; done) | (simp; omega)) _)))).mono (by first | omega | (simp; done) | (simp; omega))) HP.out).mono ?_
    rintro ec Wc ⟨rfl, bc⟩
    rw [HC0.out]
    have q10 := (bc.cell (p := ⟨w.heap.size, 0, none⟩) (by first | omega | (simp; done) | (simp; omega))).trans hHeld.1
    have q11 := (bc.cell (p := ⟨w.heap.size, 1, none⟩) (by first | omega | (simp; done) | (simp; omega))).trans hHeld.2.1
    have q12 := (bc.cell (p := ⟨w.heap.size, 2, none⟩) (by first | omega | (simp; done) | (simp; omega))).trans hHeld.2.2
    have Dc : Below w.heap.size w Wc := (by repeat (first | assumption | exact Below.refl _ _ | (refine Below.trans ?_ (bc.mono (by first | omega | (simp; done) | (simp; omega)))) | (refine Below.trans ?_ (Da.mono (by first | omega | (simp; done) | (simp; omega)))) | (refine Below.setCell ?_ (by first | omega | (simp; done) | (simp; omega)) _) | apply below_drewN | apply Below.drew | (refine Below.alloc ?_ (by first | omega | (simp; done) | (simp; omega)) _)))
    clear hHeld
    (refine hK.out _ _ ?_ (fun hHeld => ?_))
    · exact ⟨q10, q11, q12⟩
    ((refine wpAnyH_take (i := 9) (oi := ⟨some 6, _, _, _, _, _⟩) (v := ?_) rfl (by kernel_rfl) (by kernel_rfl) (by kernel_rfl) (fun _ _ _ h => h) (Or.inl ⟨by rfl, ?_⟩) (by assumption) ?_; rotate_left 1; (focus (intro w hSw; (try dsimp only at hSw); go_simp <;> try (first | (with_reducible rfl) | (rw [if_neg (by omega)])))); try simp only [Act.put, List.setIfInBounds_toArray, List.set_cons_zero, List.set_cons_succ]))
    refine wpAnyH_done (by kernel_rfl) ?_ _
    go_wp2
    go_ret
    exact ⟨rfl, Dc⟩

end Go.Proofs.Ytlkgbemlagfdjaa
