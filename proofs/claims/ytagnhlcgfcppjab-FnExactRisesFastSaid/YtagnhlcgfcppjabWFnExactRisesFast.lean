import Derived.Test.YtagnhlcgfcppjabLevelsE
import Derived.Test.YtagnhlcgfcppjabClos
namespace Go.Proofs.Ytagnhlcgfcppjab
open Go.RowKit

/-- The rises among the first k readings. -/
def rises (y : Int) (xs : List Int) : Nat → List Int
  | 0 => []
  | k + 1 => rises y xs k ++ if 1 ≤ k ∧ y ≤ xs.getD k 0 - xs.getD (k - 1) 0 then [(k : Int)] else []
theorem rises_one (y : Int) (xs : List Int) : rises y xs 1 = [] := by simp [rises]
theorem rises_len (y : Int) (xs : List Int) (k : Nat) : (rises y xs k).length ≤ k := by
  induction k with
  | zero => simp [rises]
  | succ k ih => simp only [rises]; split <;> simp <;> omega
theorem rises_yes (y : Int) (xs : List Int) (k : Nat) (h : 1 ≤ k) (hy : y ≤ xs.getD k 0 - xs.getD (k - 1) 0) : rises y xs (k + 1) = rises y xs k ++ [(k : Int)] := by
  rw [rises, if_pos ⟨h, hy⟩]
theorem rises_no (y : Int) (xs : List Int) (k : Nat) (hy : ¬ y ≤ xs.getD k 0 - xs.getD (k - 1) 0) : rises y xs (k + 1) = rises y xs k := by
  rw [rises, if_neg (fun h => hy h.2), List.append_nil]

def rsP (y : Int) (xs : List Int) (k : Nat) : Bool := decide (1 ≤ k ∧ y ≤ xs.getD k 0 - xs.getD (k - 1) 0)
theorem rises_ix0 (y : Int) (xs : List Int) (n : Nat) : rises y xs n = ixN (rsP y xs) n := by
  induction n with
  | zero => rfl
  | succ n ih => simp only [rises, ixN, rsP]; rw [ih]; simp [rsP]
theorem rises_ix (y : Int) (xs : List Int) (n : Nat) : rises y xs (max n 1) = ixN (rsP y xs) n := by
  rcases Nat.eq_zero_or_pos n with rfl | h
  · rw [show max 0 1 = 1 from rfl, rises_one]; rfl
  · rw [show max n 1 = n by omega, rises_ix0]

set_option maxHeartbeats 400000 in
theorem spec_rises (A : Option Addr) (n c : Nat) (xs : List Int) (y : Int) (w : World) (hn : n ≤ 1048576) (ha : Rd w w.heap.size A n xs) (hv : LvOk n xs) (hy1 : 1 ≤ y) (hy2 : y ≤ 4000) :
    Calls Try.prog 44 #[.slice A n c, .int .i64 y] w fun e w' => ∃ B m d, e = .returned (.tuple #[.slice B m d, .int .i64 0]) ∧ Below w.heap.size w w' ∧ Wr w' w.heap.size B m (rises y xs (max n 1)) := by
  have HA := Lib.hid ha
  have HV := Lib.hid hv
  clear ha hv
  go_enter Try.func44, Try.ntmps44
  go_wp2_with (first | (go_at_call 76; refine (l02List_any _ _ _ _ _ hn HA.out true ⟨fun _ => HV.out, fun _ => rfl⟩).mono ?_; rintro e w' ⟨rfl, rfl⟩; rw [show codeOf true = 0 from rfl]) | (go_at_call 67; first | (refine (in_t _ _ _ _ (by omega)).mono ?_; rintro e w' ⟨rfl, rfl⟩) | (refine (in_f _ _ _ _ (by omega)).mono ?_; rintro e w' ⟨rfl, rfl⟩)))
  go_loopw [7, 8] (fun v i wr => ∃ q : Nat, q + 1 ≤ max n 1 ∧ i = .int .i64 ((q + 1 : Nat) : Int) ∧ Below w.heap.size w wr ∧ w.heap.size ≤ wr.heap.size ∧ wr.ownsRow w.heap.size 2 1 v (rises y xs (q + 1)).length ((rises y xs (q + 1)).map (Value.int .i64))) (fun _ i _ => n - (intOf i).toNat)
  case atStart => exact ⟨0, by omega, rfl, (Below.refl _ _).alloc (Nat.le_refl _) _, by simp, by rw [rises_one]; exact World.ownsRow_made _ _ _ (Nat.le_refl _) (by simp [maxLen]) rfl⟩
  case round =>
    obtain ⟨q, hq, rfl, hb, hz, hown⟩ := hrel
    by_cases hlt : q + 1 < n
    · obtain ⟨ab, o, rfl, hbB, hc⟩ := HA.out.2 (by omega)
      have c1 := (hb.cell (p := ⟨ab, o + (q + 1), none⟩) hbB).trans (hc (q + 1) hlt)
      have c0 := (hb.cell (p := ⟨ab, o + q, none⟩) hbB).trans (hc q (by omega))
      obtain ⟨g1, g2⟩ := HV.out.1 (q + 1) hlt
      obtain ⟨g3, g4⟩ := HV.out.1 q (by omega)
      clear hc
      have hyes := rises_yes y xs (q + 1) (by omega)
      have hno := rises_no y xs (q + 1)
      rw [Nat.add_sub_cancel] at hyes hno
      obtain ⟨x1, hx1⟩ : ∃ x, x = xs.getD (q + 1) 0 := ⟨_, rfl⟩
      obtain ⟨x0, hx0⟩ : ∃ x, x = xs.getD q 0 := ⟨_, rfl⟩
      rw [← hx1] at c1 g1 g2 hyes hno
      rw [← hx0] at c0 g3 g4 hyes hno
      clear hx1 hx0
      have hrl := rises_len y xs (q + 1)
      have HY := Lib.hid hyes
      have HN := Lib.hid hno
      clear hyes hno
      by_cases ht : y ≤ x1 - x0
      · go_wp2
        go_quiet (fail)
        go_wp2_with (at_builtin; refine wpl_app1 rfl _ _ rfl _ _ _ _ _ _ rfl (by exact hown) rfl (by omega) (by exact hz) ?_; intro v1 w1 hown1 hb1 hz1)
        go_roundw
        case rel => exact ⟨q + 1, by omega, by go_num, hb.trans (below_drewN (Below.refl _ _) _ |>.trans hb1), Nat.le_trans hz hz1, by rw [HY.out ht]; simpa using hown1⟩
        case measure => simp [intOf]; omega
      · go_wp2
        go_quiet (fail)
        go_wp2
        go_roundw
        case rel => exact ⟨q + 1, by omega, by go_num, below_drewN hb _, hz, by rw [HN.out ht]; exact hown⟩
        case measure => simp [intOf]; omega
    · go_wp2
      obtain ⟨B, d, rfl, hw⟩ := own_wr hown
      go_ret2
      exact ⟨B, _, d, rfl, hb, by rw [show max n 1 = q + 1 by omega]; exact hw⟩

set_option maxHeartbeats 400000 in
theorem impl_rises (A : Option Addr) (n c : Nat) (xs : List Int) (y : Int) (w : World) (hn : n ≤ 1048576) (ha : Rd w w.heap.size A n xs) (hv : LvOk n xs) (hy1 : 1 ≤ y) (hy2 : y ≤ 4000) :
    Calls Try.prog 46 #[.slice A n c, .int .i64 y] w fun e w' => ∃ B m d, e = .returned (.tuple #[.slice B m d, .int .i64 0]) ∧ Below w.heap.size w w' ∧ Wr w' w.heap.size B m (rises y xs (max n 1)) := by
  have HA := Lib.hid ha
  have HV := Lib.hid hv
  clear ha hv
  have h60 := HV.out.2
  have HE := Lib.hid (rises_ix y xs n)
  go_enter Try.func46, Try.ntmps46
  go_wp2_with (first | (go_at_call 77; refine (areGauges_any _ _ _ _ _ hn ((HA.out.below (by repeat (first | assumption | exact Below.refl _ _ | (refine Below.setCell ?_ (by first | omega | (simp; done) | (simp; omega)) _) | apply below_drewN | apply Below.drew | (refine Below.alloc ?_ (by first | omega | (simp; done) | (simp; omega)) _)))).mono (by first | omega | (simp; done) | (simp; omega))) true ⟨fun _ => HV.out, fun _ => rfl⟩).mono ?_; rintro e w' ⟨rfl, rfl⟩) | (go_at_call 51; first | (refine (within_t _ _ _ _ (by omega)).mono ?_; rintro e w' ⟨rfl, rfl⟩) | (refine (within_f _ _ _ _ (by omega)).mono ?_; rintro e w' ⟨rfl, rfl⟩)) | (go_at_call 62; refine (ix_rf (.pointer (some ⟨w.heap.size, 0, none⟩)) (.pointer (some ⟨w.heap.size + 1, 0, none⟩)) n (rsP y xs) _ (by omega) ?hcl).mono ?_; (case hcl => exact fun i k W v hi hk hb hv => (by obtain ⟨ab, o, rfl, hbB, hc⟩ := HA.out.2 (by omega); have dW : Below w.heap.size w W := (by repeat (first | assumption | exact Below.refl _ _ | (refine Below.trans ?_ (hb.mono (by first | omega | (simp; done) | (simp; omega)))) | (refine Below.setCell ?_ (by first | omega | (simp; done) | (simp; omega)) _) | apply below_drewN | apply Below.drew | (refine Below.alloc ?_ (by first | omega | (simp; done) | (simp; omega)) _))); exact rfCl_t _ _ k n c ab o i y _ _ W hi hk hn ((hb.cell (p := ⟨w.heap.size, 0, none⟩) (by first | omega | (simp; done) | (simp; omega))).trans (by first | (simp; done) | go_simp)) ((hb.cell (p := ⟨w.heap.size + 1, 0, none⟩) (by first | omega | (simp; done) | (simp; omega))).trans (by first | (simp; done) | go_simp)) ((dW.cell (p := ⟨ab, o + k, none⟩) hbB).trans (hc k hk)) ((dW.cell (p := ⟨ab, o + (k - 1), none⟩) hbB).trans (hc (k - 1) (by omega))) (HV.out.1 k hk) (HV.out.1 (k - 1) (by omega)) v hv)); rintro e3 W3 ⟨B, d, rfl, b3, hw⟩; have HW := Lib.hid (hw.lower (show w.heap.size ≤ _ from (by first | omega | (simp; done) | (simp; omega)))); have d3 : Below w.heap.size w W3 := (by repeat (first | assumption | exact Below.refl _ _ | (refine Below.trans ?_ (b3.mono (by first | omega | (simp; done) | (simp; omega)))) | (refine Below.setCell ?_ (by first | omega | (simp; done) | (simp; omega)) _) | apply below_drewN | apply Below.drew | (refine Below.alloc ?_ (by first | omega | (simp; done) | (simp; omega)) _))); clear hw b3))
  go_ret2
  exact ⟨B, _, d, rfl, d3, by rw [HE.out]; exact HW.out⟩

set_option maxHeartbeats 400000 in
theorem spec_rises_bad (A : Option Addr) (n c : Nat) (xs : List Int) (y : Int) (w : World) (hn : n ≤ 1048576) (ha : Rd w w.heap.size A n xs) (hv : ¬ (LvOk n xs ∧ 1 ≤ y ∧ y ≤ 4000)) :
    Calls Try.prog 44 #[.slice A n c, .int .i64 y] w fun e w' => e = .returned (.tuple #[.slice none 0 0, .int .i64 2]) ∧ w = w' := by
  have HA := Lib.hid ha
  have HV := Lib.hid hv
  clear ha hv
  by_cases h : LvOk n xs
  · have H := Lib.hid h
    clear h
    have hy : ¬ (1 ≤ y ∧ y ≤ 4000) := fun h => HV.out ⟨H.out, h.1, h.2⟩
    go_enter Try.func44, Try.ntmps44
    go_wp2_with (first | (go_at_call 76; refine (l02List_any _ _ _ _ _ hn HA.out true ⟨fun _ => H.out, fun _ => rfl⟩).mono ?_; rintro e w' ⟨rfl, rfl⟩; rw [show codeOf true = 0 from rfl]) | (go_at_call 67; first | (refine (in_t _ _ _ _ (by omega)).mono ?_; rintro e w' ⟨rfl, rfl⟩) | (refine (in_f _ _ _ _ (by omega)).mono ?_; rintro e w' ⟨rfl, rfl⟩)))
    go_ret2
    exact ⟨rfl, rfl⟩
  · have H := Lib.hid h
    clear h
    go_enter Try.func44, Try.ntmps44
    go_wp2_with (first | (go_at_call 76; refine (l02List_any _ _ _ _ _ hn HA.out false ⟨fun h => by simp at h, fun h => absurd h H.out⟩).mono ?_; rintro e w' ⟨rfl, rfl⟩; rw [show codeOf false = 2 from rfl]) | (go_at_call 67; first | (refine (in_t _ _ _ _ (by omega)).mono ?_; rintro e w' ⟨rfl, rfl⟩) | (refine (in_f _ _ _ _ (by omega)).mono ?_; rintro e w' ⟨rfl, rfl⟩)))
    go_ret2
    exact ⟨rfl, rfl⟩

set_option maxHeartbeats 400000 in
theorem impl_rises_bad (A : Option Addr) (n c : Nat) (xs : List Int) (y : Int) (w : World) (hn : n ≤ 1048576) (ha : Rd w w.heap.size A n xs) (hv : ¬ (LvOk n xs ∧ 1 ≤ y ∧ y ≤ 4000)) :
    Calls Try.prog 46 #[.slice A n c, .int .i64 y] w fun e w' => e = .returned (.tuple #[.slice none 0 0, .int .i64 2]) ∧ Below w.heap.size w w' := by
  have HA := Lib.hid ha
  have HV := Lib.hid hv
  clear ha hv
  by_cases h : LvOk n xs
  · have H := Lib.hid h
    clear h
    have hy : ¬ (1 ≤ y ∧ y ≤ 4000) := fun h => HV.out ⟨H.out, h.1, h.2⟩
    go_enter Try.func46, Try.ntmps46
    go_wp2_with (first | (go_at_call 77; refine (areGauges_any _ _ _ _ _ hn ((HA.out.below (by repeat (first | assumption | exact Below.refl _ _ | (refine Below.setCell ?_ (by first | omega | (simp; done) | (simp; omega)) _) | apply below_drewN | apply Below.drew | (refine Below.alloc ?_ (by first | omega | (simp; done) | (simp; omega)) _)))).mono (by first | omega | (simp; done) | (simp; omega))) true ⟨fun _ => H.out, fun _ => rfl⟩).mono ?_; rintro e w' ⟨rfl, rfl⟩) | (go_at_call 51; first | (refine (within_t _ _ _ _ (by omega)).mono ?_; rintro e w' ⟨rfl, rfl⟩) | (refine (within_f _ _ _ _ (by omega)).mono ?_; rintro e w' ⟨rfl, rfl⟩)))
    go_ret2
    exact ⟨rfl, (by repeat (first | assumption | exact Below.refl _ _ | (refine Below.setCell ?_ (by first | omega | (simp; done) | (simp; omega)) _) | apply below_drewN | apply Below.drew | (refine Below.alloc ?_ (by first | omega | (simp; done) | (simp; omega)) _)))⟩
  · have H := Lib.hid h
    clear h
    go_enter Try.func46, Try.ntmps46
    go_wp2_with (first | (go_at_call 77; refine (areGauges_any _ _ _ _ _ hn ((HA.out.below (by repeat (first | assumption | exact Below.refl _ _ | (refine Below.setCell ?_ (by first | omega | (simp; done) | (simp; omega)) _) | apply below_drewN | apply Below.drew | (refine Below.alloc ?_ (by first | omega | (simp; done) | (simp; omega)) _)))).mono (by first | omega | (simp; done) | (simp; omega))) false ⟨fun h => by simp at h, fun h => absurd h H.out⟩).mono ?_; rintro e w' ⟨rfl, rfl⟩) | (go_at_call 51; first | (refine (within_t _ _ _ _ (by omega)).mono ?_; rintro e w' ⟨rfl, rfl⟩) | (refine (within_f _ _ _ _ (by omega)).mono ?_; rintro e w' ⟨rfl, rfl⟩)))
    go_ret2
    exact ⟨rfl, (by repeat (first | assumption | exact Below.refl _ _ | (refine Below.setCell ?_ (by first | omega | (simp; done) | (simp; omega)) _) | apply below_drewN | apply Below.drew | (refine Below.alloc ?_ (by first | omega | (simp; done) | (simp; omega)) _)))⟩

def riV (n : Nat) (xs : List Int) (y : Int) : List Int := if LvOk n xs ∧ 1 ≤ y ∧ y ≤ 4000 then rises y xs (max n 1) else []
def riC (n : Nat) (xs : List Int) (y : Int) : Int := if LvOk n xs ∧ 1 ≤ y ∧ y ≤ 4000 then 0 else 2
theorem wr_nil (w : World) (B : Nat) : Wr w B none 0 [] := ⟨rfl, fun h => absurd h (by omega)⟩

theorem specC (A : Option Addr) (n c : Nat) (xs : List Int) (y : Int) (w : World) (hn : n ≤ 1048576) (ha : Rd w w.heap.size A n xs) :
    Calls Try.prog 44 #[.slice A n c, .int .i64 y] w fun e w' => ∃ B m d, e = .returned (.tuple #[.slice B m d, .int .i64 (riC n xs y)]) ∧ Below w.heap.size w w' ∧ Wr w' w.heap.size B m (riV n xs y) := by
  by_cases h : LvOk n xs ∧ 1 ≤ y ∧ y ≤ 4000
  · rw [show riC n xs y = 0 from if_pos h, show riV n xs y = rises y xs (max n 1) from if_pos h]
    exact spec_rises A n c xs y w hn ha h.1 h.2.1 h.2.2
  · rw [show riC n xs y = 2 from if_neg h, show riV n xs y = [] from if_neg h]
    refine (spec_rises_bad A n c xs y w hn ha h).mono ?_
    rintro e w' ⟨rfl, rfl⟩
    exact ⟨none, 0, 0, rfl, Below.refl _ _, wr_nil _ _⟩
theorem implC (A : Option Addr) (n c : Nat) (xs : List Int) (y : Int) (w : World) (hn : n ≤ 1048576) (ha : Rd w w.heap.size A n xs) :
    Calls Try.prog 46 #[.slice A n c, .int .i64 y] w fun e w' => ∃ B m d, e = .returned (.tuple #[.slice B m d, .int .i64 (riC n xs y)]) ∧ Below w.heap.size w w' ∧ Wr w' w.heap.size B m (riV n xs y) := by
  by_cases h : LvOk n xs ∧ 1 ≤ y ∧ y ≤ 4000
  · rw [show riC n xs y = 0 from if_pos h, show riV n xs y = rises y xs (max n 1) from if_pos h]
    exact impl_rises A n c xs y w hn ha h.1 h.2.1 h.2.2
  · rw [show riC n xs y = 2 from if_neg h, show riV n xs y = [] from if_neg h]
    refine (impl_rises_bad A n c xs y w hn ha h).mono ?_
    rintro e w' ⟨rfl, bb⟩
    exact ⟨none, 0, 0, rfl, bb, wr_nil _ _⟩
theorem riV_len (n : Nat) (xs : List Int) (y : Int) : (riV n xs y).length ≤ 60 := by
  unfold riV
  split
  · rename_i h
    have := rises_len y xs (max n 1)
    have := h.1.2
    omega
  · simp

set_option maxHeartbeats 1000000 in
theorem law_FnExactRisesFast (A : Option Addr) (n c : Nat) (xs : List Int) (a1 : Int) (w : World) (hn : n ≤ 1048576) (hA : Rd w w.heap.size A n xs) :
    Calls Try.prog 13 #[.slice A n c, .int .i64 a1] w fun e w' => e = .returned (.bool true) ∧ Below w.heap.size w w' := by
  have hvl := riV_len n xs a1
  have e1 : (riC n xs a1 != riC n xs a1) = false := by simp
  go_enter Try.func13, Try.ntmps13
  go_wp2_with fail
  refine (toInts_t _ _ _ xs _ hn hA).mono ?_
  rintro e1 W1 ⟨rfl, b1, z1, x1⟩
  have hA1 := hA.below b1
  have n1 := b1.size
  go_wp2_with fail
  refine (specC _ _ _ xs _ _ hn x1.rd).mono ?_
  rintro e2 W2 ⟨B1, m1, d1, rfl, b2, r1⟩
  have hA2 := hA1.below (b2.mono n1)
  have hl1 := r1.1
  have n2 := b2.size
  go_wp2_with fail
  refine (toInts_t _ _ _ xs _ hn (hA2.mono (by omega))).mono ?_
  rintro e3 W3 ⟨rfl, b3, z3, x3⟩
  have hA3 := hA2.below (b3.mono (by omega))
  have r1a := r1.rd.below b3
  have n3 := b3.size
  go_wp2_with fail
  refine (implC _ _ _ xs _ _ hn x3.rd).mono ?_
  rintro e4 W4 ⟨B2, m2, d2, rfl, b4, r2⟩
  have hA4 := hA3.below (b4.mono (by omega))
  have r1b := r1a.below (b4.mono (by omega))
  have x4 := x3.below b4
  have hl2 := r2.1
  have n4 := b4.size
  obtain rfl : m2 = m1 := by omega
  go_wp2_with fail
  refine (eqInts_t _ _ _ _ _ (riV n xs a1) _ (by omega) r2.rd (r1b.mono (by omega))).mono ?_
  rintro e5 W5 ⟨rfl, q5, rfl⟩
  go_wp2_with fail
  have hA5 : Rd (W4.drewN q5) (W4.drewN q5).heap.size A n xs := Rd.mono (Rd.drewN hA4 q5) (by show w.heap.size ≤ W4.heap.size; omega)
  refine (toInts_t _ _ _ xs _ hn hA5).mono ?_
  rintro e6 W6 ⟨rfl, b6, z6, x6⟩
  have b6' : Below W4.heap.size W4 W6 := Below.trans (below_drewN (Below.refl _ _) q5) b6
  have hA6 := hA4.below (b6'.mono (by omega))
  have r1c := r1b.below (b6'.mono (by omega))
  have r2c := r2.below b6'
  have x4c := x4.below b6'
  have n6 := b6'.size
  go_wp2_with fail
  refine (eqInts_t _ _ _ _ _ xs _ (by omega) x4c.rd x6.rd).mono ?_
  rintro e7 W7 ⟨rfl, q7, rfl⟩
  go_wp2_with fail
  refine (markInts_t _ W2.heap.size _ _ xs 1 _ (by omega) (by omega) (by omega) (x4c.drewN q7)).mono ?_
  rintro e8 W8 ⟨rfl, b8, g8, x8⟩
  have b8' : Below W2.heap.size W6 W8 := Below.trans (below_drewN (Below.refl _ _) q7) b8
  have hA8 := hA6.below (b8'.mono (by omega))
  have r1d := r1c.below b8'
  have r2d := (r2c.drewN q7).grown g8 (r2c.far z3)
  have n8 := b8'.size
  go_wp2_with fail
  refine (eqInts_t _ _ _ _ _ (riV n xs a1) _ (by omega) r2d.rd (r1d.mono (by omega))).mono ?_
  rintro e9 W9 ⟨rfl, q9, rfl⟩
  go_wp2_with fail
  refine (markInts_t _ W3.heap.size _ _ (riV n xs a1) 1 _ (by omega) (by omega) (by omega) (r2d.drewN q9)).mono ?_
  rintro e10 W10 ⟨rfl, b10, g10, r2e⟩
  have b10' : Below W3.heap.size W8 W10 := Below.trans (below_drewN (Below.refl _ _) q9) b10
  have hA10 := hA8.below (b10'.mono (by omega))
  have r1e := r1d.below (b10'.mono (by omega))
  have n10 := b10'.size
  go_wp2_with fail
  refine (heldInts_t _ _ _ 1 _ (by omega) (by omega) (by omega) r2e.rd).mono ?_
  rintro e11 W11 ⟨rfl, rfl⟩
  go_wp2_with fail
  refine (toInts_t _ _ _ xs _ hn (hA10.mono (by omega))).mono ?_
  rintro e12 W12 ⟨rfl, b12, z12, x12⟩
  have r1f := r1e.below (b12.mono (by omega))
  have r2f := r2e.below b12
  have n12 := b12.size
  go_wp2_with fail
  refine (implC _ _ _ xs _ _ hn x12.rd).mono ?_
  rintro e13 W13 ⟨B3, m3, d3, rfl, b13, r3⟩
  have r1g := r1f.below (b13.mono (by omega))
  have r2g := r2f.below b13
  have hl3 := r3.1
  have n13 := b13.size
  obtain rfl : m3 = m2 := by omega
  go_wp2_with fail
  refine (eqInts_t _ _ _ _ _ (riV n xs a1) _ (by omega) r3.rd (r1g.mono (by omega))).mono ?_
  rintro e14 W14 ⟨rfl, q14, rfl⟩
  go_wp2_with fail
  refine (heldInts_t _ _ _ 1 _ (by omega) (by omega) (by omega) (r2g.drewN q14).rd).mono ?_
  rintro e15 W15 ⟨rfl, rfl⟩
  go_wp2_with fail
  go_ret
  refine ⟨rfl, ?_⟩
  have h4 : Below w.heap.size w W4 := ((b1.trans (b2.mono (by omega))).trans (b3.mono (by omega))).trans (b4.mono (by omega))
  have h8 : Below w.heap.size w W8 := (h4.trans (b6'.mono (by omega))).trans (b8'.mono (by omega))
  exact below_drewN (((h8.trans (b10'.mono (by omega))).trans (b12.mono (by omega))).trans (b13.mono (by omega))) q14

theorem walk_FnExactRisesFast (a0 : Option Addr) (len0 cap0 : Nat) (z0 : List Int) (a1 : Int) (w : World) (w0 : IsRow .i64 w a0 len0 cap0 z0) (_w1 : (Lit.int .i64 a1).wf = true) :
    Calls Try.prog 13 #[.slice a0 len0 cap0, .int .i64 a1] w fun e w' => e = .returned (.bool true) ∧ Below w.heap.size w w' := by
  by_cases hn : len0 ≤ 1048576
  · exact law_FnExactRisesFast a0 len0 cap0 (z0.take len0) a1 w hn w0.rd
  · have hm := w0.len
    unfold maxLen at hm
    go_enter Try.func13, Try.ntmps13
    go_wp2
    go_ret
    exact ⟨rfl, Below.refl _ _⟩

end Go.Proofs.Ytagnhlcgfcppjab
