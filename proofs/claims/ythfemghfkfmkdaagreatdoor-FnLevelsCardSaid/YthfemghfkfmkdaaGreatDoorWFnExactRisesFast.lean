import Derived.Test.YthfemghfkfmkdaaGreatDoorLevelsE
import Derived.Test.YthfemghfkfmkdaaGreatDoorClos
namespace Go.Proofs.YthfemghfkfmkdaaGreatDoor
open Go.RowKit

/-- The rises among the first k readings. -/
def rises (y : Int) (xs : List Int) : Nat → List Int
  | 0 => []
  | k + 1 => rises y xs k ++ if 1 ≤ k ∧ y ≤ xs.getD k 0 - xs.getD (k - 1) 0 then [(k : Int)] else []
theorem rises_one (y : Int) (xs : List Int) : rises y xs 1 = [] := by simp [rises]
theorem rises_len (y : Int) (xs : List Int) (k : Nat) : (rises y xs k).length ≤ k := by
  induction k with
  | zero => simp [rises]
  | succ k ih => simp only [rises]; split <;> simp <;> omega
theorem rises_yes (y : Int) (xs : List Int) (k : Nat) (h : 1 ≤ k) (hy : y ≤ xs.getD k 0 - xs.getD (k - 1) 0) : rises y xs (k + 1) = rises y xs k ++ [(k : Int)] := by
  rw [rises, if_pos ⟨h, hy⟩]
theorem rises_no (y : Int) (xs : List Int) (k : Nat) (hy : ¬ y ≤ xs.getD k 0 - xs.getD (k - 1) 0) : rises y xs (k + 1) = rises y xs k := by
  rw [rises, if_neg (fun h => hy h.2), List.append_nil]

def rsP (y : Int) (xs : List Int) (k : Nat) : Bool := decide (1 ≤ k ∧ y ≤ xs.getD k 0 - xs.getD (k - 1) 0)
theorem rises_ix0 (y : Int) (xs : List Int) (n : Nat) : rises y xs n = ixN (rsP y xs) n := by
  induction n with
  | zero => rfl
  | succ n ih => simp only [rises, ixN, rsP]; rw [ih]; simp [rsP]
theorem rises_ix (y : Int) (xs : List Int) (n : Nat) : rises y xs (max n 1) = ixN (rsP y xs) n := by
  rcases Nat.eq_zero_or_pos n with rfl | h
  · rw [show max 0 1 = 1 from rfl, rises_one]; rfl
  · rw [show max n 1 = n by omega, rises_ix0]

set_option maxHeartbeats 400000 in
theorem spec_rises (A : Option Addr) (n c : Nat) (xs : List Int) (y : Int) (w : World) (hn : n ≤ 1048576) (ha : Rd w w.heap.size A n xs) (hv : LvOk n xs) (hy1 : 1 ≤ y) (hy2 : y ≤ 4000) :
    Calls Tryz.prog 13 #[.slice A n c, .int .i64 y] w fun e w' => ∃ B m d, e = .returned (.tuple #[.slice B m d, .int .i64 0]) ∧ Below w.heap.size w w' ∧ Wr w' w.heap.size B m (rises y xs (max n 1)) := by
  have HA := Lib.hid ha
  have HV := Lib.hid hv
  clear ha hv
  go_enter Tryz.func13, Tryz.ntmps13
  go_wp2_with (first | (go_at_call 36; refine (l02List_any _ _ _ _ _ hn HA.out true ⟨fun _ => HV.out, fun _ => rfl⟩).mono ?_; rintro e w' ⟨rfl, rfl⟩; rw [show codeOf true = 0 from rfl]) | (go_at_call 37; first | (refine (in_t _ _ _ _ (by omega)).mono ?_; rintro e w' ⟨rfl, rfl⟩) | (refine (in_f _ _ _ _ (by omega)).mono ?_; rintro e w' ⟨rfl, rfl⟩)))
  go_loopw [7, 8] (fun v i wr => ∃ q : Nat, q + 1 ≤ max n 1 ∧ i = .int .i64 ((q + 1 : Nat) : Int) ∧ Below w.heap.size w wr ∧ w.heap.size ≤ wr.heap.size ∧ wr.ownsRow w.heap.size 2 1 v (rises y xs (q + 1)).length ((rises y xs (q + 1)).map (Value.int .i64))) (fun _ i _ => n - (intOf i).toNat)
  case atStart => exact ⟨0, by omega, rfl, (Below.refl _ _).alloc (Nat.le_refl _) _, by simp, by rw [rises_one]; exact World.ownsRow_made _ _ _ (Nat.le_refl _) (by simp [maxLen]) rfl⟩
  case round =>
    obtain ⟨q, hq, rfl, hb, hz, hown⟩ := hrel
    by_cases hlt : q + 1 < n
    · obtain ⟨ab, o, rfl, hbB, hc⟩ := HA.out.2 (by omega)
      have c1 := (hb.cell (p := ⟨ab, o + (q + 1), none⟩) hbB).trans (hc (q + 1) hlt)
      have c0 := (hb.cell (p := ⟨ab, o + q, none⟩) hbB).trans (hc q (by omega))
      obtain ⟨g1, g2⟩ := HV.out.1 (q + 1) hlt
      obtain ⟨g3, g4⟩ := HV.out.1 q (by omega)
      clear hc
      have hyes := rises_yes y xs (q + 1) (by omega)
      have hno := rises_no y xs (q + 1)
      rw [Nat.add_sub_cancel] at hyes hno
      obtain ⟨x1, hx1⟩ : ∃ x, x = xs.getD (q + 1) 0 := ⟨_, rfl⟩
      obtain ⟨x0, hx0⟩ : ∃ x, x = xs.getD q 0 := ⟨_, rfl⟩
      rw [← hx1] at c1 g1 g2 hyes hno
      rw [← hx0] at c0 g3 g4 hyes hno
      clear hx1 hx0
      have hrl := rises_len y xs (q + 1)
      have HY := Lib.hid hyes
      have HN := Lib.hid hno
      clear hyes hno
      by_cases ht : y ≤ x1 - x0
      · go_wp2
        go_quiet (fail)
        go_wp2_with (at_builtin; refine wpl_app1 rfl _ _ rfl _ _ _ _ _ _ rfl (by exact hown) rfl (by omega) (by exact hz) ?_; intro v1 w1 hown1 hb1 hz1)
        go_roundw
        case rel => exact ⟨q + 1, by omega, by go_num, hb.trans (below_drewN (Below.refl _ _) _ |>.trans hb1), Nat.le_trans hz hz1, by rw [HY.out ht]; simpa using hown1⟩
        case measure => simp [intOf]; omega
      · go_wp2
        go_quiet (fail)
        go_wp2
        go_roundw
        case rel => exact ⟨q + 1, by omega, by go_num, below_drewN hb _, hz, by rw [HN.out ht]; exact hown⟩
        case measure => simp [intOf]; omega
    · go_wp2
      obtain ⟨B, d, rfl, hw⟩ := own_wr hown
      go_ret2
      exact ⟨B, _, d, rfl, hb, by rw [show max n 1 = q + 1 by omega]; exact hw⟩

set_option maxHeartbeats 400000 in
theorem impl_rises (A : Option Addr) (n c : Nat) (xs : List Int) (y : Int) (w : World) (hn : n ≤ 1048576) (ha : Rd w w.heap.size A n xs) (hv : LvOk n xs) (hy1 : 1 ≤ y) (hy2 : y ≤ 4000) :
    Calls Tryz.prog 12 #[.slice A n c, .int .i64 y] w fun e w' => ∃ B m d, e = .returned (.tuple #[.slice B m d, .int .i64 0]) ∧ Below w.heap.size w w' ∧ Wr w' w.heap.size B m (rises y xs (max n 1)) := by
  have HA := Lib.hid ha
  have HV := Lib.hid hv
  clear ha hv
  have h60 := HV.out.2
  have HE := Lib.hid (rises_ix y xs n)
  go_enter Tryz.func12, Tryz.ntmps12
  go_wp2_with (first | (go_at_call 31; refine (areGauges_any _ _ _ _ _ hn ((HA.out.below (by repeat (first | assumption | exact Below.refl _ _ | (refine Below.setCell ?_ (by first | omega | (simp; done) | (simp; omega)) _) | apply below_drewN | apply Below.drew | (refine Below.alloc ?_ (by first | omega | (simp; done) | (simp; omega)) _)))).mono (by first | omega | (simp; done) | (simp; omega))) true ⟨fun _ => HV.out, fun _ => rfl⟩).mono ?_; rintro e w' ⟨rfl, rfl⟩) | (go_at_call 32; first | (refine (within_t _ _ _ _ (by omega)).mono ?_; rintro e w' ⟨rfl, rfl⟩) | (refine (within_f _ _ _ _ (by omega)).mono ?_; rintro e w' ⟨rfl, rfl⟩)) | (go_at_call 34; refine (ix_rf (.pointer (some ⟨w.heap.size, 0, none⟩)) (.pointer (some ⟨w.heap.size + 1, 0, none⟩)) n (rsP y xs) _ (by omega) ?hcl).mono ?_; (case hcl => exact fun i k W v hi hk hb hv => (by obtain ⟨ab, o, rfl, hbB, hc⟩ := HA.out.2 (by omega); have dW : Below w.heap.size w W := (by repeat (first | assumption | exact Below.refl _ _ | (refine Below.trans ?_ (hb.mono (by first | omega | (simp; done) | (simp; omega)))) | (refine Below.setCell ?_ (by first | omega | (simp; done) | (simp; omega)) _) | apply below_drewN | apply Below.drew | (refine Below.alloc ?_ (by first | omega | (simp; done) | (simp; omega)) _))); exact rfCl_t _ _ k n c ab o i y _ _ W hi hk hn ((hb.cell (p := ⟨w.heap.size, 0, none⟩) (by first | omega | (simp; done) | (simp; omega))).trans (by first | (simp; done) | go_simp)) ((hb.cell (p := ⟨w.heap.size + 1, 0, none⟩) (by first | omega | (simp; done) | (simp; omega))).trans (by first | (simp; done) | go_simp)) ((dW.cell (p := ⟨ab, o + k, none⟩) hbB).trans (hc k hk)) ((dW.cell (p := ⟨ab, o + (k - 1), none⟩) hbB).trans (hc (k - 1) (by omega))) (HV.out.1 k hk) (HV.out.1 (k - 1) (by omega)) v hv)); rintro e3 W3 ⟨B, d, rfl, b3, hw⟩; have HW := Lib.hid (hw.lower (show w.heap.size ≤ _ from (by first | omega | (simp; done) | (simp; omega)))); have d3 : Below w.heap.size w W3 := (by repeat (first | assumption | exact Below.refl _ _ | (refine Below.trans ?_ (b3.mono (by first | omega | (simp; done) | (simp; omega)))) | (refine Below.setCell ?_ (by first | omega | (simp; done) | (simp; omega)) _) | apply below_drewN | apply Below.drew | (refine Below.alloc ?_ (by first | omega | (simp; done) | (simp; omega)) _))); clear hw b3))
  go_ret2
  exact ⟨B, _, d, rfl, d3, by rw [HE.out]; exact HW.out⟩

set_option maxHeartbeats 400000 in
theorem spec_rises_bad (A : Option Addr) (n c : Nat) (xs : List Int) (y : Int) (w : World) (hn : n ≤ 1048576) (ha : Rd w w.heap.size A n xs) (hv : ¬ (LvOk n xs ∧ 1 ≤ y ∧ y ≤ 4000)) :
    Calls Tryz.prog 13 #[.slice A n c, .int .i64 y] w fun e w' => e = .returned (.tuple #[.slice none 0 0, .int .i64 2]) ∧ w = w' := by
  have HA := Lib.hid ha
  have HV := Lib.hid hv
  clear ha hv
  by_cases h : LvOk n xs
  · have H := Lib.hid h
    clear h
    have hy : ¬ (1 ≤ y ∧ y ≤ 4000) := fun h => HV.out ⟨H.out, h.1, h.2⟩
    go_enter Tryz.func13, Tryz.ntmps13
    go_wp2_with (first | (go_at_call 36; refine (l02List_any _ _ _ _ _ hn HA.out true ⟨fun _ => H.out, fun _ => rfl⟩).mono ?_; rintro e w' ⟨rfl, rfl⟩; rw [show codeOf true = 0 from rfl]) | (go_at_call 37; first | (refine (in_t _ _ _ _ (by omega)).mono ?_; rintro e w' ⟨rfl, rfl⟩) | (refine (in_f _ _ _ _ (by omega)).mono ?_; rintro e w' ⟨rfl, rfl⟩)))
    go_ret2
    exact ⟨rfl, rfl⟩
  · have H := Lib.hid h
    clear h
    go_enter Tryz.func13, Tryz.ntmps13
    go_wp2_with (first | (go_at_call 36; refine (l02List_any _ _ _ _ _ hn HA.out false ⟨fun h => by simp at h, fun h => absurd h H.out⟩).mono ?_; rintro e w' ⟨rfl, rfl⟩; rw [show codeOf false = 2 from rfl]) | (go_at_call 37; first | (refine (in_t _ _ _ _ (by omega)).mono ?_; rintro e w' ⟨rfl, rfl⟩) | (refine (in_f _ _ _ _ (by omega)).mono ?_; rintro e w' ⟨rfl, rfl⟩)))
    go_ret2
    exact ⟨rfl, rfl⟩

set_option maxHeartbeats 400000 in
theorem impl_rises_bad (A : Option Addr) (n c : Nat) (xs : List Int) (y : Int) (w : World) (hn : n ≤ 1048576) (ha : Rd w w.heap.size A n xs) (hv : ¬ (LvOk n xs ∧ 1 ≤ y ∧ y ≤ 4000)) :
    Calls Tryz.prog 12 #[.slice A n c, .int .i64 y] w fun e w' => e = .returned (.tuple #[.slice none 0 0, .int .i64 2]) ∧ Below w.heap.size w w' := by
  have HA := Lib.hid ha
  have HV := Lib.hid hv
  clear ha hv
  by_cases h : LvOk n xs
  · have H := Lib.hid h
    clear h
    have hy : ¬ (1 ≤ y ∧ y ≤ 4000) := fun h => HV.out ⟨H.out, h.1, h.2⟩
    go_enter Tryz.func12, Tryz.ntmps12
    go_wp2_with (first | (go_at_call 31; refine (areGauges_any _ _ _ _ _ hn ((HA.out.below (by repeat (first | assumption | exact Below.refl _ _ | (refine Below.setCell ?_ (by first | omega | (simp; done) | (simp; omega)) _) | apply below_drewN | apply Below.drew | (refine Below.alloc ?_ (by first | omega | (simp; done) | (simp; omega)) _)))).mono (by first | omega | (simp; done) | (simp; omega))) true ⟨fun _ => H.out, fun _ => rfl⟩).mono ?_; rintro e w' ⟨rfl, rfl⟩) | (go_at_call 32; first | (refine (within_t _ _ _ _ (by omega)).mono ?_; rintro e w' ⟨rfl, rfl⟩) | (refine (within_f _ _ _ _ (by omega)).mono ?_; rintro e w' ⟨rfl, rfl⟩)))
    go_ret2
    exact ⟨rfl, (by repeat (first | assumption | exact Below.refl _ _ | (refine Below.setCell ?_ (by first | omega | (simp; done) | (simp; omega)) _) | apply below_drewN | apply Below.drew | (refine Below.alloc ?_ (by first | omega | (simp; done) | (simp; omega)) _)))⟩
  · have H := Lib.hid h
    clear h
    go_enter Tryz.func12, Tryz.ntmps12
    go_wp2_with (first | (go_at_call 31; refine (areGauges_any _ _ _ _ _ hn ((HA.out.below (by repeat (first | assumption | exact Below.refl _ _ | (refine Below.setCell ?_ (by first | omega | (simp; done) | (simp; omega)) _) | apply below_drewN | apply Below.drew | (refine Below.alloc ?_ (by first | omega | (simp; done) | (simp; omega)) _)))).mono (by first | omega | (simp; done) | (simp; omega))) false ⟨fun h => by simp at h, fun h => absurd h H.out⟩).mono ?_; rintro e w' ⟨rfl, rfl⟩) | (go_at_call 32; first | (refine (within_t _ _ _ _ (by omega)).mono ?_; rintro e w' ⟨rfl, rfl⟩) | (refine (within_f _ _ _ _ (by omega)).mono ?_; rintro e w' ⟨rfl, rfl⟩)))
    go_ret2
    exact ⟨rfl, (by repeat (first | assumption | exact Below.refl _ _ | (refine Below.setCell ?_ (by first | omega | (simp; done) | (simp; omega)) _) | apply below_drewN | apply Below.drew | (refine Below.alloc ?_ (by first | omega | (simp; done) | (simp; omega)) _)))⟩

def riV (n : Nat) (xs : List Int) (y : Int) : List Int := if LvOk n xs ∧ 1 ≤ y ∧ y ≤ 4000 then rises y xs (max n 1) else []
def riC (n : Nat) (xs : List Int) (y : Int) : Int := if LvOk n xs ∧ 1 ≤ y ∧ y ≤ 4000 then 0 else 2
theorem wr_nil (w : World) (B : Nat) : Wr w B none 0 [] := ⟨rfl, fun h => absurd h (by omega)⟩

theorem specC (A : Option Addr) (n c : Nat) (xs : List Int) (y : Int) (w : World) (hn : n ≤ 1048576) (ha : Rd w w.heap.size A n xs) :
    Calls Tryz.prog 13 #[.slice A n c, .int .i64 y] w fun e w' => ∃ B m d, e = .returned (.tuple #[.slice B m d, .int .i64 (riC n xs y)]) ∧ Below w.heap.size w w' ∧ Wr w' w.heap.size B m (riV n xs y) := by
  by_cases h : LvOk n xs ∧ 1 ≤ y ∧ y ≤ 4000
  · rw [show riC n xs y = 0 from if_pos h, show riV n xs y = rises y xs (max n 1) from if_pos h]
    exact spec_rises A n c xs y w hn ha h.1 h.2.1 h.2.2
  · rw [show riC n xs y = 2 from if_neg h, show riV n xs y = [] from if_neg h]
    refine (spec_rises_bad A n c xs y w hn ha h).mono ?_
    rintro e w' ⟨rfl, rfl⟩
    exact ⟨none, 0, 0, rfl, Below.refl _ _, wr_nil _ _⟩
theorem implC (A : Option Addr) (n c : Nat) (xs : List Int) (y : Int) (w : World) (hn : n ≤ 1048576) (ha : Rd w w.heap.size A n xs) :
    Calls Tryz.prog 12 #[.slice A n c, .int .i64 y] w fun e w' => ∃ B m d, e = .returned (.tuple #[.slice B m d, .int .i64 (riC n xs y)]) ∧ Below w.heap.size w w' ∧ Wr w' w.heap.size B m (riV n xs y) := by
  by_cases h : LvOk n xs ∧ 1 ≤ y ∧ y ≤ 4000
  · rw [show riC n xs y = 0 from if_pos h, show riV n xs y = rises y xs (max n 1) from if_pos h]
    exact impl_rises A n c xs y w hn ha h.1 h.2.1 h.2.2
  · rw [show riC n xs y = 2 from if_neg h, show riV n xs y = [] from if_neg h]
    refine (impl_rises_bad A n c xs y w hn ha h).mono ?_
    rintro e w' ⟨rfl, bb⟩
    exact ⟨none, 0, 0, rfl, bb, wr_nil _ _⟩
theorem riV_len (n : Nat) (xs : List Int) (y : Int) : (riV n xs y).length ≤ 60 := by
  unfold riV
  split
  · rename_i h
    have := rises_len y xs (max n 1)
    have := h.1.2
    omega
  · simp
end Go.Proofs.YthfemghfkfmkdaaGreatDoor
