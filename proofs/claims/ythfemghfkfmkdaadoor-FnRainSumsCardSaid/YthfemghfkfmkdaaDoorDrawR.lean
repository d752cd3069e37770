/- Draws of rain. -/
import Derived.Test.YthfemghfkfmkdaaDoorFrom
import Derived.Test.YthfemghfkfmkdaaDoorOwnS
namespace Go.Proofs.YthfemghfkfmkdaaDoor
open Go.RowKit

/-- drawn rain: 1 to 16 numbers from 0 to 199 -/
def RnD (m : Nat) (xs : List Int) : Prop := (∀ j, j < m → 0 ≤ xs.getD j 0 ∧ xs.getD j 0 ≤ 199) ∧ 1 ≤ m ∧ m ≤ 16
theorem getD_app (xs : List Int) (y : Int) (q j : Nat) (hl : xs.length = q) (hj : j < q + 1) : (xs ++ [y]).getD j 0 = if j = q then y else xs.getD j 0 := by
  subst hl
  by_cases e : j = xs.length
  · subst e; simp [List.getD_eq_getElem?_getD]
  · rw [if_neg e]
    simp [List.getD_eq_getElem?_getD, List.getElem?_append_left (show j < xs.length by omega)]

theorem own_cap {w : World} {base size n c m : Nat} {e : TypeId} {A : Option Addr} {xs : List Value} (h : w.ownsRow base e size (.slice A m c) n xs) : m ≤ c := by
  rcases h.2 with ⟨e1, e2⟩ | ⟨g, cap, cur, e1, _, _, hnc, _⟩
  · injection e1 with _ e3 e4; omega
  · injection e1 with _ e3 e4; omega
theorem own_far {w w' : World} {base n size : Nat} {e : TypeId} {v : Value} {xs : List Value} {b : Nat} (h : w.ownsRow base e size v n xs) (hg : w.grownBy w' (some b)) (hb : b < base) : w'.ownsRow base e size v n xs :=
  h.kept hg (.inr fun e => by have := (h.lt b e).1; omega)

set_option maxRecDepth 100000 in
set_option maxHeartbeats 1600000 in
theorem l06Draw_t (b n k : Nat) (w : World) (h : Src w b n k) (hn : n ≤ 1048576) (hk : k ≤ 1040000) :
    Calls Tryd.prog 12 #[.pointer (some ⟨b, 0, none⟩)] w fun e w' => ∃ (A : Option Addr) (c m : Nat) (xs : List Int) (k' : Nat), e = .returned (.slice A m c) ∧ Wr w' w.heap.size A m xs ∧ RnD m xs ∧ Src w' b n k' ∧ k' ≤ k + 66 ∧ w.grownBy w' (some b) ∧ m ≤ c := by
  have H := Lib.hid h
  have hbs := h.bs
  clear h
  go_enter Tryd.func12, Tryd.ntmps12
  go_wp2_with fail
  refine (pick_t b n k 16 _ (H.out.alloc _) hn (by omega) (by omega)).mono ?_
  rintro e1 W1 ⟨r1, k1, rfl, q1, q2, q3, S1, q4, g1⟩
  have q5 : r1 < 16 := q2 (by omega)
  have G1 := (gb_alloc w (.cells #[] 2) (some b)).trans g1
  have hz1 := g1.size
  simp only [World.size_alloc] at hz1
  have O1 : W1.ownsRow w.heap.size 2 1 (.slice (some ⟨w.heap.size, 0, none⟩) 0 0) 0 [] := own_far (owns_made rfl (Nat.le_refl _)) g1 hbs
  obtain ⟨t, ht⟩ : ∃ t : Nat, 1 + r1 = (t : Int) := ⟨(1 + r1).toNat, by omega⟩
  have ht2 : 1 ≤ t ∧ t ≤ 16 := by omega
  obtain ⟨t1, t2⟩ := ht2
  have HS1 := Lib.hid S1
  have HG1 := Lib.hid G1
  have HO1 := Lib.hid O1
  clear S1 G1 O1 g1 q2 q3
  have hw := IntWalk.i64_in (1 + r1) (by omega)
  have HT := Lib.hid ht
  go_wp2
  go_loopw [3, 4] (fun v i wr => ∃ (q p k2 : Nat) (xs : List Int), q + p = t ∧ i = .int .i64 (p : Int) ∧ xs.length = q ∧ (∀ j, j < q → 0 ≤ xs.getD j 0 ∧ xs.getD j 0 ≤ 199) ∧ Src wr b n k2 ∧ k2 ≤ k + 2 + 4 * q ∧ w.grownBy wr (some b) ∧ w.heap.size < wr.heap.size ∧ wr.ownsRow w.heap.size 2 1 v q (xs.map (Value.int .i64))) (fun _ i _ => (intOf i).toNat)
  case atStart => exact ⟨0, t, k1, [], by omega, rfl, rfl, fun j hj => absurd hj (by omega), HS1.out, by omega, HG1.out, by omega, HO1.out⟩
  case round =>
    obtain ⟨q, p, k2, xs, hqp, rfl, hl, hx, S2, hk2, G2, hz2, hown⟩ := hrel
    have HX := Lib.hid hx
    have HS2 := Lib.hid S2
    have HG2 := Lib.hid G2
    have HOW := Lib.hid hown
    clear hx S2 G2 hown
    by_cases hp : p = 0
    · subst hp
      obtain ⟨B, d, rfl, hw⟩ := own_wr HOW.out
      have hcp := own_cap HOW.out
      have HW := Lib.hid hw
      clear hw
      go_wp2
      go_ret
      exact ⟨B, d, q, xs, k2, rfl, HW.out, ⟨HX.out, by omega, by omega⟩, HS2.out, by omega, HG2.out, hcp⟩
    · have hp1 : (0 : Int) < (p : Int) := by omega
      go_wp2_with fail
      refine (one_t b n k2 2 _ HS2.out hn (by omega) (by omega)).mono ?_
      rintro e3 W3 ⟨r3, k3, rfl, S3, q7, g3⟩
      have HO3 := Lib.hid (own_far HOW.out g3 hbs)
      have HG3 := Lib.hid (HG2.out.trans g3)
      have HS3 := Lib.hid S3
      have z3 := g3.size
      clear S3 g3
      cases r3
      · go_wp2_with fail
        refine (pick_t b n k3 200 _ HS3.out hn (by omega) (by omega)).mono ?_
        rintro e4 W4 ⟨r4, k4, rfl, q8, q9, q10, S4, q11, g4⟩
        have q12 : r4 < 200 := q9 (by omega)
        have HO4 := Lib.hid (own_far HO3.out g4 hbs)
        have HG4 := Lib.hid (HG3.out.trans g4)
        have HS4 := Lib.hid S4
        have z4 := g4.size
        clear S4 g4 q9 q10
        go_wp2_with (at_builtin; refine wpl_app1 rfl _ _ rfl _ w.heap.size q _ xs r4 rfl (by exact HO4.out) rfl (by omega) (by omega) ?_; intro v5 w5 hown5 hb5 hz5)
        go_roundw
        case rel => exact ⟨q + 1, p - 1, k4, xs ++ [r4], by omega, by go_num, by simp [hl], fun j hj => by
          rw [getD_app xs r4 q j hl hj]
          split
          · omega
          · exact HX.out j (by omega), HS4.out.below hb5 (by omega) (by omega), by omega, gb_then HG4.out hb5 (Nat.le_refl _), by omega, hown5⟩
        case measure => simp [intOf]; omega
      · go_wp2_with (at_builtin; refine wpl_app1 rfl _ _ rfl _ w.heap.size q _ xs 0 rfl (by exact HO3.out) rfl (by omega) (by omega) ?_; intro v5 w5 hown5 hb5 hz5)
        go_roundw
        case rel => exact ⟨q + 1, p - 1, k3, xs ++ [0], by omega, by go_num, by simp [hl], fun j hj => by
          rw [getD_app xs 0 q j hl hj]
          split
          · omega
          · exact HX.out j (by omega), HS3.out.below hb5 (by omega) (by omega), by omega, gb_then HG3.out hb5 (Nat.le_refl _), by omega, hown5⟩
        case measure => simp [intOf]; omega

set_option maxHeartbeats 800000 in
theorem a2Rain_t (A : Option Addr) (n c : Nat) (w : World) (h : ByR w A n) (hn : n ≤ 1048576) :
    Calls Tryd.prog 5 #[.slice A n c] w fun e w' => ∃ (B : Option Addr) (d m : Nat) (xs : List Int), e = .returned (.slice B m d) ∧ Below w.heap.size w w' ∧ Wr w' w.heap.size B m xs ∧ RnD m xs ∧ m ≤ d := by
  have H := Lib.hid h
  clear h
  go_enter Tryd.func5, Tryd.ntmps5
  go_wp2_with fail
  refine (l00From_t A n c w H.out).mono ?_
  rintro e1 W1 ⟨rfl, S1, b1⟩
  have z1 := S1.bs
  have HS1 := Lib.hid S1
  clear S1
  go_wp2_with fail
  refine (l06Draw_t w.heap.size n 0 _ HS1.out hn (by omega)).mono ?_
  rintro e2 W2 ⟨B, d, m, xs, k2, rfl, x2, r2, S2, q2, g2, hcp⟩
  have HX2 := Lib.hid x2
  have HR2 := Lib.hid r2
  clear x2 r2 S2
  go_wp2
  go_ret
  exact ⟨B, d, m, xs, rfl, below_gb b1 g2 (Nat.le_refl _) b1.size, HX2.out.lower (by omega), HR2.out, hcp⟩

end Go.Proofs.YthfemghfkfmkdaaDoor
