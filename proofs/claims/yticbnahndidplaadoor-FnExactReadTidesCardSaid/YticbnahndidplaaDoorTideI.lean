/- Tides of the program: neighbours, high and low waters, whether a table is one. -/
import Derived.Test.YticbnahndidplaaDoorTideS
import Derived.Test.YticbnahndidplaaDoorCatTT
import Derived.Deep.RegionHeld3
namespace Go.Proofs.YticbnahndidplaaDoor
open Go.RowKit

theorem lvI_t (x : Int) (w : World) (h : -2000 ≤ x ∧ x ≤ 2000) : Calls Tryd.prog 91 #[.int .i64 x] w fun e w' => e = .returned (.bool true) ∧ w = w' := by
  go_enter Tryd.func91, Tryd.ntmps91
  go_wp2_with (go_at_call 66; first | (refine (within_t _ _ _ _ (by omega)).mono ?_; rintro e w' ⟨rfl, rfl⟩) | (refine (within_f _ _ _ _ (by omega)).mono ?_; rintro e w' ⟨rfl, rfl⟩))
  go_ret
  exact ⟨rfl, rfl⟩

theorem lvI_f (x : Int) (w : World) (h : ¬ (-2000 ≤ x ∧ x ≤ 2000)) : Calls Tryd.prog 91 #[.int .i64 x] w fun e w' => e = .returned (.bool false) ∧ w = w' := by
  go_enter Tryd.func91, Tryd.ntmps91
  go_wp2_with (go_at_call 66; first | (refine (within_t _ _ _ _ (by omega)).mono ?_; rintro e w' ⟨rfl, rfl⟩) | (refine (within_f _ _ _ _ (by omega)).mono ?_; rintro e w' ⟨rfl, rfl⟩))
  go_ret
  exact ⟨rfl, rfl⟩

theorem lvI_any (x : Int) (w : World) : Calls Tryd.prog 91 #[.int .i64 x] w fun e w' => e = .returned (.bool (decide (lvok x))) ∧ w = w' := by
  by_cases h : -2000 ≤ x ∧ x ≤ 2000
  · rw [show decide (lvok x) = true from decide_eq_true h]; exact lvI_t x w h
  · rw [show decide (lvok x) = false from decide_eq_false h]; exact lvI_f x w h


theorem up_t (m l m2 l2 : Int) (w : World) (v : Bool) (hv : v = decide (l ≤ l2)) : Calls Tryd.prog 105 #[.agg #[.int .i64 m, .int .i64 l], .agg #[.int .i64 m2, .int .i64 l2]] w fun e w' => e = .returned (.bool v) ∧ Below w.heap.size w w' := by
  have HV := Lib.hid hv
  clear hv
  go_enter Tryd.func105, Tryd.ntmps105
  go_wp2
  go_ret
  exact ⟨ret_bool (by rw [HV.out]), (by repeat (first | assumption | exact Below.refl _ _ | (refine Below.setCell ?_ (by first | omega | (simp; done) | (simp; omega)) _) | apply below_drewN | apply Below.drew | (refine Below.alloc ?_ (by first | omega | (simp; done) | (simp; omega)) _)))⟩

/-- whether one of the elements is -/
def any_up (l : Int) (n : Nat) (xs : List RTide) : Prop := ∃ j, j < n ∧ l ≤ tL xs j

set_option maxHeartbeats 1600000 in
theorem if_up (m l : Int) (A : Option Addr) (n c : Nat) (xs : List RTide) (w : World) (hn : n ≤ 1048576) (ha : Rd_Tide w w.heap.size A n xs) :
    Calls Tryd.prog 121 #[.slice A n c, .func (.func 105) #[.agg #[.int .i64 m, .int .i64 l]] #[]] w fun e w' => ∃ r : Int, e = .returned (.int .i64 r) ∧ -1 ≤ r ∧ r ≤ 1048576 ∧ (0 ≤ r ↔ any_up l n xs) ∧ Below w.heap.size w w' := by
  have HA := Lib.hid ha
  clear ha
  go_enter Tryd.func121, Tryd.ntmps121
  go_wp2
  go_loopw [5, 8] (fun _ i wr => ∃ k : Nat, k ≤ n ∧ i = .int .i64 (k : Int) ∧ Below w.heap.size w wr ∧ Hid (∀ j, j < k → ¬ l ≤ tL xs j)) (fun _ i _ => n - (intOf i).toNat)
  case atStart => exact ⟨0, by omega, rfl, Below.refl _ _, fun j hj => absurd hj (by omega)⟩
  case round =>
    obtain ⟨k, hk, rfl, hb, hr⟩ := hrel
    have hsz := hb.size
    by_cases hlt : k < n
    · obtain ⟨ab, o, rfl, hbB, hc⟩ := (HA.out.below hb).ml (by omega)
      obtain ⟨p0, p1⟩ := hc k hlt
      clear hc
      have hab : ab < wr.heap.size := by omega
      by_cases g : l ≤ tL xs k
      · have HG := Lib.hid (show any_up l n xs from ⟨k, hlt, g⟩)
        have HV := Lib.hid (show true = decide (l ≤ tL xs k) from (decide_eq_true g).symm)
        clear g
        generalize tM xs k = m2 at *
        generalize tL xs k = l2 at *
        go_wp2_with (first | (go_at_call 105; refine (up_t _ _ _ _ _ true HV.out).mono ?_; rintro e1 W1 ⟨rfl, b1⟩))
        go_ret
        exact ⟨_, rfl, by omega, by omega, ⟨fun _ => HG.out, fun _ => by omega⟩, hb.trans (b1.mono hsz)⟩
      · have HG := Lib.hid g
        have HV := Lib.hid (show false = decide (l ≤ tL xs k) from (decide_eq_false g).symm)
        have HN := Lib.hid (show ∀ j, j < k + 1 → ¬ l ≤ tL xs j from fun j hj => by
          by_cases e : j = k
          · subst e; exact g
          · exact hr.out j (by omega))
        clear g
        generalize tM xs k = m2 at *
        generalize tL xs k = l2 at *
        go_wp2_with (first | (go_at_call 105; refine (up_t _ _ _ _ _ false HV.out).mono ?_; rintro e1 W1 ⟨rfl, b1⟩))
        go_roundw
        case rel => exact ⟨k + 1, by omega, by go_num, hb.trans (b1.mono hsz), fun j hj => by have := HN.out j hj; omega⟩
        case measure => simp [intOf]; omega
    · obtain rfl : k = n := by omega
      have HN := Lib.hid (show ¬ any_up l k xs from fun ⟨j, h1, h2⟩ => hr.out j h1 h2)
      go_wp2
      go_ret
      exact ⟨_, rfl, by omega, by omega, ⟨fun h => absurd h (by omega), fun h => absurd h HN.out⟩, hb⟩

set_option maxHeartbeats 400000 in
theorem cf_up (m l : Int) (A : Option Addr) (n c : Nat) (xs : List RTide) (w : World) (hn : n ≤ 1048576) (ha : Rd_Tide w w.heap.size A n xs) (v : Bool) (hv : v = true ↔ any_up l n xs) :
    Calls Tryd.prog 103 #[.slice A n c, .func (.func 105) #[.agg #[.int .i64 m, .int .i64 l]] #[]] w fun e w' => e = .returned (.bool v) ∧ Below w.heap.size w w' := by
  have HV := Lib.hid hv
  clear hv
  go_enter Tryd.func103, Tryd.ntmps103
  go_wp2_with (first | (go_at_call 121; refine (if_up m l _ _ _ xs _ hn ha).mono ?_; rintro e1 W1 ⟨r, rfl, r1, r2, r3, b1⟩; have R3 := Lib.hid r3; clear r3))
  go_ret
  refine ⟨ret_bool ?_, b1⟩
  have h3 := R3.out.trans HV.out.symm
  cases v
  · exact decide_eq_false (fun h => by have := h3.1 h; cases this)
  · exact decide_eq_true (h3.2 rfl)

theorem dn_t (m l m2 l2 : Int) (w : World) (v : Bool) (hv : v = decide (l2 ≤ l)) : Calls Tryd.prog 106 #[.agg #[.int .i64 m, .int .i64 l], .agg #[.int .i64 m2, .int .i64 l2]] w fun e w' => e = .returned (.bool v) ∧ Below w.heap.size w w' := by
  have HV := Lib.hid hv
  clear hv
  go_enter Tryd.func106, Tryd.ntmps106
  go_wp2
  go_ret
  exact ⟨ret_bool (by rw [HV.out]), (by repeat (first | assumption | exact Below.refl _ _ | (refine Below.setCell ?_ (by first | omega | (simp; done) | (simp; omega)) _) | apply below_drewN | apply Below.drew | (refine Below.alloc ?_ (by first | omega | (simp; done) | (simp; omega)) _)))⟩

/-- whether one of the elements is -/
def any_dn (l : Int) (n : Nat) (xs : List RTide) : Prop := ∃ j, j < n ∧ tL xs j ≤ l

set_option maxHeartbeats 1600000 in
theorem if_dn (m l : Int) (A : Option Addr) (n c : Nat) (xs : List RTide) (w : World) (hn : n ≤ 1048576) (ha : Rd_Tide w w.heap.size A n xs) :
    Calls Tryd.prog 121 #[.slice A n c, .func (.func 106) #[.agg #[.int .i64 m, .int .i64 l]] #[]] w fun e w' => ∃ r : Int, e = .returned (.int .i64 r) ∧ -1 ≤ r ∧ r ≤ 1048576 ∧ (0 ≤ r ↔ any_dn l n xs) ∧ Below w.heap.size w w' := by
  have HA := Lib.hid ha
  clear ha
  go_enter Tryd.func121, Tryd.ntmps121
  go_wp2
  go_loopw [5, 8] (fun _ i wr => ∃ k : Nat, k ≤ n ∧ i = .int .i64 (k : Int) ∧ Below w.heap.size w wr ∧ Hid (∀ j, j < k → ¬ tL xs j ≤ l)) (fun _ i _ => n - (intOf i).toNat)
  case atStart => exact ⟨0, by omega, rfl, Below.refl _ _, fun j hj => absurd hj (by omega)⟩
  case round =>
    obtain ⟨k, hk, rfl, hb, hr⟩ := hrel
    have hsz := hb.size
    by_cases hlt : k < n
    · obtain ⟨ab, o, rfl, hbB, hc⟩ := (HA.out.below hb).ml (by omega)
      obtain ⟨p0, p1⟩ := hc k hlt
      clear hc
      have hab : ab < wr.heap.size := by omega
      by_cases g : tL xs k ≤ l
      · have HG := Lib.hid (show any_dn l n xs from ⟨k, hlt, g⟩)
        have HV := Lib.hid (show true = decide (tL xs k ≤ l) from (decide_eq_true g).symm)
        clear g
        generalize tM xs k = m2 at *
        generalize tL xs k = l2 at *
        go_wp2_with (first | (go_at_call 106; refine (dn_t _ _ _ _ _ true HV.out).mono ?_; rintro e1 W1 ⟨rfl, b1⟩))
        go_ret
        exact ⟨_, rfl, by omega, by omega, ⟨fun _ => HG.out, fun _ => by omega⟩, hb.trans (b1.mono hsz)⟩
      · have HG := Lib.hid g
        have HV := Lib.hid (show false = decide (tL xs k ≤ l) from (decide_eq_false g).symm)
        have HN := Lib.hid (show ∀ j, j < k + 1 → ¬ tL xs j ≤ l from fun j hj => by
          by_cases e : j = k
          · subst e; exact g
          · exact hr.out j (by omega))
        clear g
        generalize tM xs k = m2 at *
        generalize tL xs k = l2 at *
        go_wp2_with (first | (go_at_call 106; refine (dn_t _ _ _ _ _ false HV.out).mono ?_; rintro e1 W1 ⟨rfl, b1⟩))
        go_roundw
        case rel => exact ⟨k + 1, by omega, by go_num, hb.trans (b1.mono hsz), fun j hj => by have := HN.out j hj; omega⟩
        case measure => simp [intOf]; omega
    · obtain rfl : k = n := by omega
      have HN := Lib.hid (show ¬ any_dn l k xs from fun ⟨j, h1, h2⟩ => hr.out j h1 h2)
      go_wp2
      go_ret
      exact ⟨_, rfl, by omega, by omega, ⟨fun h => absurd h (by omega), fun h => absurd h HN.out⟩, hb⟩

set_option maxHeartbeats 400000 in
theorem cf_dn (m l : Int) (A : Option Addr) (n c : Nat) (xs : List RTide) (w : World) (hn : n ≤ 1048576) (ha : Rd_Tide w w.heap.size A n xs) (v : Bool) (hv : v = true ↔ any_dn l n xs) :
    Calls Tryd.prog 103 #[.slice A n c, .func (.func 106) #[.agg #[.int .i64 m, .int .i64 l]] #[]] w fun e w' => e = .returned (.bool v) ∧ Below w.heap.size w w' := by
  have HV := Lib.hid hv
  clear hv
  go_enter Tryd.func103, Tryd.ntmps103
  go_wp2_with (first | (go_at_call 121; refine (if_dn m l _ _ _ xs _ hn ha).mono ?_; rintro e1 W1 ⟨r, rfl, r1, r2, r3, b1⟩; have R3 := Lib.hid r3; clear r3))
  go_ret
  refine ⟨ret_bool ?_, b1⟩
  have h3 := R3.out.trans HV.out.symm
  cases v
  · exact decide_eq_false (fun h => by have := h3.1 h; cases this)
  · exact decide_eq_true (h3.2 rfl)

/-- the elements next to one -/
def nxL (n : Nat) (xs : List RTide) (k : Nat) : List RTide := (if 0 < k then [xs.getD (k - 1) zTide] else []) ++ (if k + 1 < n then [xs.getD (k + 1) zTide] else [])
theorem take_drop1 {xs : List RTide} {k : Nat} (h : k < xs.length) : (xs.drop k).take 1 = [xs.getD k zTide] := by
  rw [getDTide h, List.drop_eq_getElem_cons h]
  rfl
theorem Rd_Tide.one {w : World} {B n b o k : Nat} {xs : List RTide} (h : Rd_Tide w B (some ⟨b, o, none⟩) n xs) (hk : k < n) : Rd_Tide w B (some ⟨b, o + k * 2, none⟩) 1 [xs.getD k zTide] := by
  have hl := h.len
  have := (h.drop (k := k) (by omega)).take (k := 1) (by omega)
  rwa [take_drop1 (by omega)] at this
theorem rd_nilT (w : World) (B : Nat) (A : Option Addr) : Rd_Tide w B A 0 [] := ⟨rfl, fun h => absurd h (by omega)⟩
theorem cell_sl2 (w : World) (a b : Value) (E : TypeId) : (w.alloc (.cells #[a, b] E)).cell? ⟨w.heap.size, 0, none⟩ = some a ∧ (w.alloc (.cells #[a, b] E)).cell? ⟨w.heap.size, 1, none⟩ = some b :=
  ⟨(World.cell?_alloc_new (w := w) #[a, b] E 0).trans rfl, (World.cell?_alloc_new (w := w) #[a, b] E 1).trans rfl⟩

set_option maxRecDepth 100000 in
set_option maxHeartbeats 3200000 in
theorem nextTo_lo (b o n c k : Nat) (xs : List RTide) (w : World) (hn : n ≤ 1048576) (hcap : n ≤ c) (ha : Rd_Tide w w.heap.size (some ⟨b, o, none⟩) n xs) (h0 : k = 0) (h1 : 1 < n) :
    Calls Tryd.prog 104 #[.slice (some ⟨b, o, none⟩) n c, .int .i64 (k : Int)] w fun e w' => ∃ B d, e = .returned (.slice B (nxL n xs k).length d) ∧ Below w.heap.size w w' ∧ Rd_Tide w' w'.heap.size B (nxL n xs k).length (nxL n xs k) := by
  subst h0
  have HA := Lib.hid ha
  have HX := Lib.hid (show nxL n xs 0 = [] ++ [xs.getD 1 zTide] by unfold nxL; rw [if_neg (by omega), if_pos (by omega)])
  rw [HX.out]
  clear ha HX
  have u1 : IntKind.i64.wrap (-1) = -1 := rfl
  have u2 : IntKind.i64.wrap 1 = 1 := rfl
  have u3 : IntKind.i64.wrap 2 = 2 := rfl
  have x4 : (if (n : Int) < 2 then (n : Int) else 2) = 2 := if_neg (by omega)
  have y2 : (2 : Int) ≤ (c : Int) := by omega
  have y4 : ¬ c = 1 := by omega
  have HRB := Lib.hid (fun (O : Obj) => (Rd_Tide.mono (Rd_Tide.below (HA.out.one (k := 1) h1) ((Below.refl w.heap.size w).drew.alloc (by simp) O)) (B' := (w.drew.alloc O).heap.size) (by simp)))
  go_enter Tryd.func104, Tryd.ntmps104
  go_wp2_with fail
  refine wp_region_held_drew (S := fun w' => True) (by kernel_rfl) trivial (fun hHeld => ?_)
  ((refine wpAnyH_take (i := 0) (oi := ⟨some 5, _, _, _, _, _⟩) (v := ?_) rfl (by kernel_rfl) (by kernel_rfl) (by kernel_rfl) (fun _ _ _ h => h) (Or.inl ⟨by rfl, ?_⟩) (by assumption) ?_; rotate_left 1; (focus (intro w hSw; (try dsimp only at hSw); go_simp <;> try (first | (with_reducible rfl) | (rw [if_neg (by omega)]) | (rw [if_pos (by omega)])))); try simp only [Act.put, List.setIfInBounds_toArray, List.set_cons_zero, List.set_cons_succ]); (refine wpAnyH_take (i := 1) (oi := ⟨some 6, _, _, _, _, _⟩) (v := ?_) rfl (by kernel_rfl) (by kernel_rfl) (by kernel_rfl) (fun _ _ _ h => h) (Or.inl ⟨by rfl, ?_⟩) (by assumption) ?_; rotate_left 1; (focus (intro w hSw; (try dsimp only at hSw); go_simp <;> try (first | (with_reducible rfl) | (rw [if_neg (by omega)]) | (rw [if_pos (by omega)])))); try simp only [Act.put, List.setIfInBounds_toArray, List.set_cons_zero, List.set_cons_succ]); (refine wpAnyH_take (i := 2) (oi := ⟨some 7, _, _, _, _, _⟩) (v := ?_) rfl (by kernel_rfl) (by kernel_rfl) (by kernel_rfl) (fun _ _ _ h => h) (Or.inl ⟨by rfl, ?_⟩) (by assumption) ?_; rotate_left 1; (focus (intro w hSw; (try dsimp only at hSw); go_simp <;> try (first | (with_reducible rfl) | (rw [if_neg (by omega)]) | (rw [if_pos (by omega)])))); try simp only [Act.put, List.setIfInBounds_toArray, List.set_cons_zero, List.set_cons_succ]); (refine wpAnyH_take (i := 4) (oi := ⟨some 9, _, _, _, _, _⟩) (v := ?_) rfl (by kernel_rfl) (by kernel_rfl) (by kernel_rfl) (fun _ _ _ h => h) (Or.inl ⟨by rfl, ?_⟩) (by assumption) ?_; rotate_left 1; (focus (intro w hSw; (try dsimp only at hSw); go_simp <;> try (first | (with_reducible rfl) | (rw [if_neg (by omega)]) | (rw [if_pos (by omega)])))); try simp only [Act.put, List.setIfInBounds_toArray, List.set_cons_zero, List.set_cons_succ]); (refine wpAnyH_take (i := 6) (oi := ⟨some 11, _, _, _, _, _⟩) (v := ?_) rfl (by kernel_rfl) (by kernel_rfl) (by kernel_rfl) (fun _ _ _ h => h) (Or.inl ⟨by rfl, ?_⟩) (by assumption) ?_; rotate_left 1; (focus (intro w hSw; (try dsimp only at hSw); go_simp <;> try (first | (with_reducible rfl) | (rw [if_neg (by omega)]) | (rw [if_pos (by omega)])))); try simp only [Act.put, List.setIfInBounds_toArray, List.set_cons_zero, List.set_cons_succ]); (refine wpAnyH_take (i := 7) (oi := ⟨some 12, _, _, _, _, _⟩) (v := ?_) rfl (by kernel_rfl) (by kernel_rfl) (by kernel_rfl) (fun _ _ _ h => h) (Or.inl ⟨by rfl, ?_⟩) (by assumption) ?_; rotate_left 1; (focus (intro w hSw; (try dsimp only at hSw); go_simp <;> try (first | (with_reducible rfl) | (rw [if_neg (by omega)]) | (rw [if_pos (by omega)])))); try simp only [Act.put, List.setIfInBounds_toArray, List.set_cons_zero, List.set_cons_succ]); (refine wpAnyH_take (i := 8) (oi := ⟨some 13, _, _, _, _, _⟩) (v := ?_) rfl (by kernel_rfl) (by kernel_rfl) (by kernel_rfl) (fun _ _ _ h => h) (Or.inl ⟨by rfl, ?_⟩) (by assumption) ?_; rotate_left 1; (focus (intro w hSw; (try dsimp only at hSw); go_simp <;> try (first | (with_reducible rfl) | (rw [if_neg (by omega)]) | (rw [if_pos (by omega)])))); try simp only [Act.put, List.setIfInBounds_toArray, List.set_cons_zero, List.set_cons_succ]); (refine wpAnyH_take (i := 9) (oi := ⟨some 14, _, _, _, _, _⟩) (v := ?_) rfl (by kernel_rfl) (by kernel_rfl) (by kernel_rfl) (fun _ _ _ h => h) (Or.inl ⟨by rfl, ?_⟩) (by assumption) ?_; rotate_left 1; (focus (intro w hSw; (try dsimp only at hSw); go_simp <;> try (first | (with_reducible rfl) | (rw [if_neg (by omega)]) | (rw [if_pos (by omega)])))); try simp only [Act.put, List.setIfInBounds_toArray, List.set_cons_zero, List.set_cons_succ]); (refine wpAnyH_take (i := 10) (oi := ⟨some 15, _, _, _, _, _⟩) (v := ?_) rfl (by kernel_rfl) (by kernel_rfl) (by kernel_rfl) (fun _ _ _ h => h) (Or.inl ⟨by rfl, ?_⟩) (by assumption) ?_; rotate_left 1; (focus (intro w hSw; (try dsimp only at hSw); go_simp <;> try (first | (with_reducible rfl) | (rw [if_neg (by omega)]) | (rw [if_pos (by omega)])))); try simp only [Act.put, List.setIfInBounds_toArray, List.set_cons_zero, List.set_cons_succ]); (refine wpAnyH_take (i := 11) (oi := ⟨some 16, _, _, _, _, _⟩) (v := ?_) rfl (by kernel_rfl) (by kernel_rfl) (by kernel_rfl) (fun _ _ _ h => h) (Or.inl ⟨by rfl, ?_⟩) (by assumption) ?_; rotate_left 1; (focus (intro w hSw; (try dsimp only at hSw); go_simp <;> try (first | (with_reducible rfl) | (rw [if_neg (by omega)]) | (rw [if_pos (by omega)])))); try simp only [Act.put, List.setIfInBounds_toArray, List.set_cons_zero, List.set_cons_succ]))
  refine wpAnyH_ready (rs := [3, 12]) (by kernel_rfl) (by simp) ?_
  refine AllReadyH.cons (o := ⟨some 8, _, _, _, _, _⟩) rfl (fun K hK => ?_) (AllReadyH.cons (o := ⟨some 17, _, _, _, _, _⟩) rfl (fun K hK => ?_) AllReadyH.nil)
  · go_simp
    (refine hK.out _ _ ?_ (fun hHeld => ?_))
    · first | exact hHeld | exact trivial
    ((refine wpAnyH_take (i := 5) (oi := ⟨some 10, _, _, _, _, _⟩) (v := ?_) rfl (by kernel_rfl) (by kernel_rfl) (by kernel_rfl) (fun _ _ _ h => h) (Or.inl ⟨by rfl, ?_⟩) (by assumption) ?_; rotate_left 1; (focus (intro w hSw; (try dsimp only at hSw); go_simp <;> try (first | (with_reducible rfl) | (rw [if_neg (by omega)]) | (rw [if_pos (by omega)])))); try simp only [Act.put, List.setIfInBounds_toArray, List.set_cons_zero, List.set_cons_succ]))
    refine wpAnyH_ready (rs := [12]) (by kernel_rfl) (by simp) ?_
    refine AllReadyH.cons (o := ⟨some 17, _, _, _, _, _⟩) rfl (fun K hK => ?_) AllReadyH.nil
    go_simp
    (refine hK.out _ _ ?_ (fun hHeld => ?_))
    · first | exact hHeld | exact trivial
    refine wpAnyH_ready (rs := [13]) (by kernel_rfl) (by simp) ?_
    refine AllReadyH.cons (o := ⟨some 18, _, _, _, _, _⟩) rfl (fun K hK => ?_) AllReadyH.nil
    go_simp
    (refine hK.out _ _ ?_ (fun hHeld => ?_))
    · first | exact hHeld | exact trivial
    ((refine wpAnyH_take (i := 14) (oi := ⟨some 19, _, _, _, _, _⟩) (v := ?_) rfl (by kernel_rfl) (by kernel_rfl) (by kernel_rfl) (fun _ _ _ h => h) (Or.inl ⟨by rfl, ?_⟩) (by assumption) ?_; rotate_left 1; (focus (intro w hSw; (try dsimp only at hSw); go_simp <;> try (first | (with_reducible rfl) | (rw [if_neg (by omega)]) | (rw [if_pos (by omega)])))); try simp only [Act.put, List.setIfInBounds_toArray, List.set_cons_zero, List.set_cons_succ]))
    refine wpAnyH_ready (rs := [15]) (by kernel_rfl) (by simp) ?_
    refine AllReadyH.cons (o := ⟨some 20, _, _, _, _, _⟩) rfl (fun K hK => ?_) AllReadyH.nil
    go_simp
    clear hHeld
    (refine hK.out _ _ ?_ (fun hHeld => ?_))
    · exact trivial
    try simp only [Act.put, List.setIfInBounds_toArray, List.set_cons_zero, List.set_cons_succ]
    refine wpAnyH_ready (rs := [16]) (by kernel_rfl) (by simp) ?_
    refine AllReadyH.cons (o := ⟨some 21, _, _, _, _, _⟩) rfl (fun K hK => ?_) AllReadyH.nil
    go_simp
    refine (concatTT_t _ _ _ 0 1 _ _ _ _ _ (by simp) (cell_sl2 _ _ _ _).1 (cell_sl2 _ _ _ _).2 (by omega) (by omega) (rd_nilT _ _ _) (HRB.out _)).mono ?_
    rintro e1 W1 ⟨B', d', rfl, b1, hw⟩
    have hrd := Lib.hid hw.rd
    have d1 : Below w.heap.size w W1 := ((Below.refl _ _).drew.alloc (by simp) _).trans (b1.mono (by simp))
    clear hw b1
    clear hHeld
    (refine hK.out _ _ ?_ (fun hHeld => ?_))
    · exact trivial
    ((refine wpAnyH_take (i := 17) (oi := ⟨some 4, _, _, _, _, _⟩) (v := ?_) rfl (by kernel_rfl) (by kernel_rfl) (by kernel_rfl) (fun _ _ _ h => h) (Or.inl ⟨by rfl, ?_⟩) (by assumption) ?_; rotate_left 1; (focus (intro w hSw; (try dsimp only at hSw); go_simp <;> try (first | (with_reducible rfl) | (rw [if_neg (by omega)]) | (rw [if_pos (by omega)])))); try simp only [Act.put, List.setIfInBounds_toArray, List.set_cons_zero, List.set_cons_succ]))
    refine wpAnyH_done (by kernel_rfl) ?_ _
    go_wp2
    go_ret
    first | exact ⟨_, _, rfl, d1, hrd.out⟩ | exact ⟨_, ⟨_, rfl⟩, d1, by first | exact hrd.out | simpa using hrd.out⟩
  · go_simp
    (refine hK.out _ _ ?_ (fun hHeld => ?_))
    · first | exact hHeld | exact trivial
    refine wpAnyH_ready (rs := [3, 13]) (by kernel_rfl) (by simp) ?_
    refine AllReadyH.cons (o := ⟨some 8, _, _, _, _, _⟩) rfl (fun K hK => ?_) (AllReadyH.cons (o := ⟨some 18, _, _, _, _, _⟩) rfl (fun K hK => ?_) AllReadyH.nil)
    · go_simp
      (refine hK.out _ _ ?_ (fun hHeld => ?_))
      · first | exact hHeld | exact trivial
      ((refine wpAnyH_take (i := 5) (oi := ⟨some 10, _, _, _, _, _⟩) (v := ?_) rfl (by kernel_rfl) (by kernel_rfl) (by kernel_rfl) (fun _ _ _ h => h) (Or.inl ⟨by rfl, ?_⟩) (by assumption) ?_; rotate_left 1; (focus (intro w hSw; (try dsimp only at hSw); go_simp <;> try (first | (with_reducible rfl) | (rw [if_neg (by omega)]) | (rw [if_pos (by omega)])))); try simp only [Act.put, List.setIfInBounds_toArray, List.set_cons_zero, List.set_cons_succ]))
      refine wpAnyH_ready (rs := [13]) (by kernel_rfl) (by simp) ?_
      refine AllReadyH.cons (o := ⟨some 18, _, _, _, _, _⟩) rfl (fun K hK => ?_) AllReadyH.nil
      go_simp
      (refine hK.out _ _ ?_ (fun hHeld => ?_))
      · first | exact hHeld | exact trivial
      ((refine wpAnyH_take (i := 14) (oi := ⟨some 19, _, _, _, _, _⟩) (v := ?_) rfl (by kernel_rfl) (by kernel_rfl) (by kernel_rfl) (fun _ _ _ h => h) (Or.inl ⟨by rfl, ?_⟩) (by assumption) ?_; rotate_left 1; (focus (intro w hSw; (try dsimp only at hSw); go_simp <;> try (first | (with_reducible rfl) | (rw [if_neg (by omega)]) | (rw [if_pos (by omega)])))); try simp only [Act.put, List.setIfInBounds_toArray, List.set_cons_zero, List.set_cons_succ]))
      refine wpAnyH_ready (rs := [15]) (by kernel_rfl) (by simp) ?_
      refine AllReadyH.cons (o := ⟨some 20, _, _, _, _, _⟩) rfl (fun K hK => ?_) AllReadyH.nil
      go_simp
      clear hHeld
      (refine hK.out _ _ ?_ (fun hHeld => ?_))
      · exact trivial
      try simp only [Act.put, List.setIfInBounds_toArray, List.set_cons_zero, List.set_cons_succ]
      refine wpAnyH_ready (rs := [16]) (by kernel_rfl) (by simp) ?_
      refine AllReadyH.cons (o := ⟨some 21, _, _, _, _, _⟩) rfl (fun K hK => ?_) AllReadyH.nil
      go_simp
      refine (concatTT_t _ _ _ 0 1 _ _ _ _ _ (by simp) (cell_sl2 _ _ _ _).1 (cell_sl2 _ _ _ _).2 (by omega) (by omega) (rd_nilT _ _ _) (HRB.out _)).mono ?_
      rintro e1 W1 ⟨B', d', rfl, b1, hw⟩
      have hrd := Lib.hid hw.rd
      have d1 : Below w.heap.size w W1 := ((Below.refl _ _).drew.alloc (by simp) _).trans (b1.mono (by simp))
      clear hw b1
      clear hHeld
      (refine hK.out _ _ ?_ (fun hHeld => ?_))
      · exact trivial
      ((refine wpAnyH_take (i := 17) (oi := ⟨some 4, _, _, _, _, _⟩) (v := ?_) rfl (by kernel_rfl) (by kernel_rfl) (by kernel_rfl) (fun _ _ _ h => h) (Or.inl ⟨by rfl, ?_⟩) (by assumption) ?_; rotate_left 1; (focus (intro w hSw; (try dsimp only at hSw); go_simp <;> try (first | (with_reducible rfl) | (rw [if_neg (by omega)]) | (rw [if_pos (by omega)])))); try simp only [Act.put, List.setIfInBounds_toArray, List.set_cons_zero, List.set_cons_succ]))
      refine wpAnyH_done (by kernel_rfl) ?_ _
      go_wp2
      go_ret
      first | exact ⟨_, _, rfl, d1, hrd.out⟩ | exact ⟨_, ⟨_, rfl⟩, d1, by first | exact hrd.out | simpa using hrd.out⟩
    · go_simp
      (refine hK.out _ _ ?_ (fun hHeld => ?_))
      · first | exact hHeld | exact trivial
      ((refine wpAnyH_take (i := 14) (oi := ⟨some 19, _, _, _, _, _⟩) (v := ?_) rfl (by kernel_rfl) (by kernel_rfl) (by kernel_rfl) (fun _ _ _ h => h) (Or.inl ⟨by rfl, ?_⟩) (by assumption) ?_; rotate_left 1; (focus (intro w hSw; (try dsimp only at hSw); go_simp <;> try (first | (with_reducible rfl) | (rw [if_neg (by omega)]) | (rw [if_pos (by omega)])))); try simp only [Act.put, List.setIfInBounds_toArray, List.set_cons_zero, List.set_cons_succ]))
      refine wpAnyH_ready (rs := [3]) (by kernel_rfl) (by simp) ?_
      refine AllReadyH.cons (o := ⟨some 8, _, _, _, _, _⟩) rfl (fun K hK => ?_) AllReadyH.nil
      go_simp
      (refine hK.out _ _ ?_ (fun hHeld => ?_))
      · first | exact hHeld | exact trivial
      ((refine wpAnyH_take (i := 5) (oi := ⟨some 10, _, _, _, _, _⟩) (v := ?_) rfl (by kernel_rfl) (by kernel_rfl) (by kernel_rfl) (fun _ _ _ h => h) (Or.inl ⟨by rfl, ?_⟩) (by assumption) ?_; rotate_left 1; (focus (intro w hSw; (try dsimp only at hSw); go_simp <;> try (first | (with_reducible rfl) | (rw [if_neg (by omega)]) | (rw [if_pos (by omega)])))); try simp only [Act.put, List.setIfInBounds_toArray, List.set_cons_zero, List.set_cons_succ]))
      refine wpAnyH_ready (rs := [15]) (by kernel_rfl) (by simp) ?_
      refine AllReadyH.cons (o := ⟨some 20, _, _, _, _, _⟩) rfl (fun K hK => ?_) AllReadyH.nil
      go_simp
      clear hHeld
      (refine hK.out _ _ ?_ (fun hHeld => ?_))
      · exact trivial
      try simp only [Act.put, List.setIfInBounds_toArray, List.set_cons_zero, List.set_cons_succ]
      refine wpAnyH_ready (rs := [16]) (by kernel_rfl) (by simp) ?_
      refine AllReadyH.cons (o := ⟨some 21, _, _, _, _, _⟩) rfl (fun K hK => ?_) AllReadyH.nil
      go_simp
      refine (concatTT_t _ _ _ 0 1 _ _ _ _ _ (by simp) (cell_sl2 _ _ _ _).1 (cell_sl2 _ _ _ _).2 (by omega) (by omega) (rd_nilT _ _ _) (HRB.out _)).mono ?_
      rintro e1 W1 ⟨B', d', rfl, b1, hw⟩
      have hrd := Lib.hid hw.rd
      have d1 : Below w.heap.size w W1 := ((Below.refl _ _).drew.alloc (by simp) _).trans (b1.mono (by simp))
      clear hw b1
      clear hHeld
      (refine hK.out _ _ ?_ (fun hHeld => ?_))
      · exact trivial
      ((refine wpAnyH_take (i := 17) (oi := ⟨some 4, _, _, _, _, _⟩) (v := ?_) rfl (by kernel_rfl) (by kernel_rfl) (by kernel_rfl) (fun _ _ _ h => h) (Or.inl ⟨by rfl, ?_⟩) (by assumption) ?_; rotate_left 1; (focus (intro w hSw; (try dsimp only at hSw); go_simp <;> try (first | (with_reducible rfl) | (rw [if_neg (by omega)]) | (rw [if_pos (by omega)])))); try simp only [Act.put, List.setIfInBounds_toArray, List.set_cons_zero, List.set_cons_succ]))
      refine wpAnyH_done (by kernel_rfl) ?_ _
      go_wp2
      go_ret
      first | exact ⟨_, _, rfl, d1, hrd.out⟩ | exact ⟨_, ⟨_, rfl⟩, d1, by first | exact hrd.out | simpa using hrd.out⟩

set_option maxRecDepth 100000 in
set_option maxHeartbeats 3200000 in
theorem nextTo_mid (b o n c k : Nat) (xs : List RTide) (w : World) (hn : n ≤ 1048576) (hcap : n ≤ c) (ha : Rd_Tide w w.heap.size (some ⟨b, o, none⟩) n xs) (h0 : 0 < k) (h1 : k + 1 < n) :
    Calls Tryd.prog 104 #[.slice (some ⟨b, o, none⟩) n c, .int .i64 (k : Int)] w fun e w' => ∃ B d, e = .returned (.slice B (nxL n xs k).length d) ∧ Below w.heap.size w w' ∧ Rd_Tide w' w'.heap.size B (nxL n xs k).length (nxL n xs k) := by
  have HA := Lib.hid ha
  have HX := Lib.hid (show nxL n xs k = [xs.getD (k - 1) zTide] ++ [xs.getD (k + 1) zTide] by unfold nxL; rw [if_pos (by omega), if_pos (by omega)])
  rw [HX.out]
  clear ha HX
  obtain ⟨j, hj⟩ : ∃ j, j = k - 1 := ⟨_, rfl⟩
  obtain ⟨p, hp⟩ : ∃ p, p = k + 1 := ⟨_, rfl⟩
  obtain ⟨q, hq⟩ : ∃ q, q = k + 2 := ⟨_, rfl⟩
  have x1 : IntKind.i64.wrap ((k : Int) - 1) = (j : Int) := (IntWalk.i64_in _ (by omega)).trans (by omega)
  have x2 : IntKind.i64.wrap ((k : Int) + 1) = (p : Int) := (IntWalk.i64_in _ (by omega)).trans (by omega)
  have x3 : IntKind.i64.wrap ((k : Int) + 2) = (q : Int) := (IntWalk.i64_in _ (by omega)).trans (by omega)
  have x4 : (if (j : Int) < 0 then 0 else (j : Int)) = (j : Int) := if_neg (by omega)
  have s1 : (j : Int) ≤ (k : Int) := by omega
  have s2 : (k : Int) ≤ (c : Int) := by omega
  have e1 : k - j = 1 := by omega
  have e0 : ¬ c = j := by omega
  have HR1 := Lib.hid (show Rd_Tide w w.heap.size (some ⟨b, o + j * 2, none⟩) 1 [xs.getD (k - 1) zTide] by rw [hj]; exact HA.out.one (k := k - 1) (by omega))
  have HRA := Lib.hid (fun (O : Obj) => (Rd_Tide.mono (Rd_Tide.below HR1.out ((Below.refl w.heap.size w).drew.alloc (by simp) O)) (B' := (w.drew.alloc O).heap.size) (by simp)))
  have x5 : ¬ n < q := by omega
  have s3 : p ≤ q := by omega
  have s4 : (q : Int) ≤ (c : Int) := by omega
  have e2 : q - p = 1 := by omega
  have e3 : ¬ c = p := by omega
  have HR2 := Lib.hid (show Rd_Tide w w.heap.size (some ⟨b, o + p * 2, none⟩) 1 [xs.getD (k + 1) zTide] by rw [hp]; exact HA.out.one (k := k + 1) (by omega))
  have HRB := Lib.hid (fun (O : Obj) => (Rd_Tide.mono (Rd_Tide.below HR2.out ((Below.refl w.heap.size w).drew.alloc (by simp) O)) (B' := (w.drew.alloc O).heap.size) (by simp)))
  clear hj hp hq HR1 HR2
  go_enter Tryd.func104, Tryd.ntmps104
  go_wp2_with fail
  refine wp_region_held_drew (S := fun w' => True) (by kernel_rfl) trivial (fun hHeld => ?_)
  ((refine wpAnyH_take (i := 0) (oi := ⟨some 5, _, _, _, _, _⟩) (v := ?_) rfl (by kernel_rfl) (by kernel_rfl) (by kernel_rfl) (fun _ _ _ h => h) (Or.inl ⟨by rfl, ?_⟩) (by assumption) ?_; rotate_left 1; (focus (intro w hSw; (try dsimp only at hSw); go_simp <;> try (first | (with_reducible rfl) | (rw [if_neg (by omega)]) | (rw [if_pos (by omega)])))); try simp only [Act.put, List.setIfInBounds_toArray, List.set_cons_zero, List.set_cons_succ]); (refine wpAnyH_take (i := 1) (oi := ⟨some 6, _, _, _, _, _⟩) (v := ?_) rfl (by kernel_rfl) (by kernel_rfl) (by kernel_rfl) (fun _ _ _ h => h) (Or.inl ⟨by rfl, ?_⟩) (by assumption) ?_; rotate_left 1; (focus (intro w hSw; (try dsimp only at hSw); go_simp <;> try (first | (with_reducible rfl) | (rw [if_neg (by omega)]) | (rw [if_pos (by omega)])))); try simp only [Act.put, List.setIfInBounds_toArray, List.set_cons_zero, List.set_cons_succ]); (refine wpAnyH_take (i := 2) (oi := ⟨some 7, _, _, _, _, _⟩) (v := ?_) rfl (by kernel_rfl) (by kernel_rfl) (by kernel_rfl) (fun _ _ _ h => h) (Or.inl ⟨by rfl, ?_⟩) (by assumption) ?_; rotate_left 1; (focus (intro w hSw; (try dsimp only at hSw); go_simp <;> try (first | (with_reducible rfl) | (rw [if_neg (by omega)]) | (rw [if_pos (by omega)])))); try simp only [Act.put, List.setIfInBounds_toArray, List.set_cons_zero, List.set_cons_succ]); (refine wpAnyH_take (i := 4) (oi := ⟨some 9, _, _, _, _, _⟩) (v := ?_) rfl (by kernel_rfl) (by kernel_rfl) (by kernel_rfl) (fun _ _ _ h => h) (Or.inl ⟨by rfl, ?_⟩) (by assumption) ?_; rotate_left 1; (focus (intro w hSw; (try dsimp only at hSw); go_simp <;> try (first | (with_reducible rfl) | (rw [if_neg (by omega)]) | (rw [if_pos (by omega)])))); try simp only [Act.put, List.setIfInBounds_toArray, List.set_cons_zero, List.set_cons_succ]); (refine wpAnyH_take (i := 6) (oi := ⟨some 11, _, _, _, _, _⟩) (v := ?_) rfl (by kernel_rfl) (by kernel_rfl) (by kernel_rfl) (fun _ _ _ h => h) (Or.inl ⟨by rfl, ?_⟩) (by assumption) ?_; rotate_left 1; (focus (intro w hSw; (try dsimp only at hSw); go_simp <;> try (first | (with_reducible rfl) | (rw [if_neg (by omega)]) | (rw [if_pos (by omega)])))); try simp only [Act.put, List.setIfInBounds_toArray, List.set_cons_zero, List.set_cons_succ]); (refine wpAnyH_take (i := 7) (oi := ⟨some 12, _, _, _, _, _⟩) (v := ?_) rfl (by kernel_rfl) (by kernel_rfl) (by kernel_rfl) (fun _ _ _ h => h) (Or.inl ⟨by rfl, ?_⟩) (by assumption) ?_; rotate_left 1; (focus (intro w hSw; (try dsimp only at hSw); go_simp <;> try (first | (with_reducible rfl) | (rw [if_neg (by omega)]) | (rw [if_pos (by omega)])))); try simp only [Act.put, List.setIfInBounds_toArray, List.set_cons_zero, List.set_cons_succ]); (refine wpAnyH_take (i := 8) (oi := ⟨some 13, _, _, _, _, _⟩) (v := ?_) rfl (by kernel_rfl) (by kernel_rfl) (by kernel_rfl) (fun _ _ _ h => h) (Or.inl ⟨by rfl, ?_⟩) (by assumption) ?_; rotate_left 1; (focus (intro w hSw; (try dsimp only at hSw); go_simp <;> try (first | (with_reducible rfl) | (rw [if_neg (by omega)]) | (rw [if_pos (by omega)])))); try simp only [Act.put, List.setIfInBounds_toArray, List.set_cons_zero, List.set_cons_succ]); (refine wpAnyH_take (i := 9) (oi := ⟨some 14, _, _, _, _, _⟩) (v := ?_) rfl (by kernel_rfl) (by kernel_rfl) (by kernel_rfl) (fun _ _ _ h => h) (Or.inl ⟨by rfl, ?_⟩) (by assumption) ?_; rotate_left 1; (focus (intro w hSw; (try dsimp only at hSw); go_simp <;> try (first | (with_reducible rfl) | (rw [if_neg (by omega)]) | (rw [if_pos (by omega)])))); try simp only [Act.put, List.setIfInBounds_toArray, List.set_cons_zero, List.set_cons_succ]); (refine wpAnyH_take (i := 10) (oi := ⟨some 15, _, _, _, _, _⟩) (v := ?_) rfl (by kernel_rfl) (by kernel_rfl) (by kernel_rfl) (fun _ _ _ h => h) (Or.inl ⟨by rfl, ?_⟩) (by assumption) ?_; rotate_left 1; (focus (intro w hSw; (try dsimp only at hSw); go_simp <;> try (first | (with_reducible rfl) | (rw [if_neg (by omega)]) | (rw [if_pos (by omega)])))); try simp only [Act.put, List.setIfInBounds_toArray, List.set_cons_zero, List.set_cons_succ]); (refine wpAnyH_take (i := 11) (oi := ⟨some 16, _, _, _, _, _⟩) (v := ?_) rfl (by kernel_rfl) (by kernel_rfl) (by kernel_rfl) (fun _ _ _ h => h) (Or.inl ⟨by rfl, ?_⟩) (by assumption) ?_; rotate_left 1; (focus (intro w hSw; (try dsimp only at hSw); go_simp <;> try (first | (with_reducible rfl) | (rw [if_neg (by omega)]) | (rw [if_pos (by omega)])))); try simp only [Act.put, List.setIfInBounds_toArray, List.set_cons_zero, List.set_cons_succ]))
  refine wpAnyH_ready (rs := [3, 12]) (by kernel_rfl) (by simp) ?_
  refine AllReadyH.cons (o := ⟨some 8, _, _, _, _, _⟩) rfl (fun K hK => ?_) (AllReadyH.cons (o := ⟨some 17, _, _, _, _, _⟩) rfl (fun K hK => ?_) AllReadyH.nil)
  · go_simp
    (refine hK.out _ _ ?_ (fun hHeld => ?_))
    · first | exact hHeld | exact trivial
    ((refine wpAnyH_take (i := 5) (oi := ⟨some 10, _, _, _, _, _⟩) (v := ?_) rfl (by kernel_rfl) (by kernel_rfl) (by kernel_rfl) (fun _ _ _ h => h) (Or.inl ⟨by rfl, ?_⟩) (by assumption) ?_; rotate_left 1; (focus (intro w hSw; (try dsimp only at hSw); go_simp <;> try (first | (with_reducible rfl) | (rw [if_neg (by omega)]) | (rw [if_pos (by omega)])))); try simp only [Act.put, List.setIfInBounds_toArray, List.set_cons_zero, List.set_cons_succ]))
    refine wpAnyH_ready (rs := [12]) (by kernel_rfl) (by simp) ?_
    refine AllReadyH.cons (o := ⟨some 17, _, _, _, _, _⟩) rfl (fun K hK => ?_) AllReadyH.nil
    go_simp
    (refine hK.out _ _ ?_ (fun hHeld => ?_))
    · first | exact hHeld | exact trivial
    refine wpAnyH_ready (rs := [13]) (by kernel_rfl) (by simp) ?_
    refine AllReadyH.cons (o := ⟨some 18, _, _, _, _, _⟩) rfl (fun K hK => ?_) AllReadyH.nil
    go_simp
    (refine hK.out _ _ ?_ (fun hHeld => ?_))
    · first | exact hHeld | exact trivial
    ((refine wpAnyH_take (i := 14) (oi := ⟨some 19, _, _, _, _, _⟩) (v := ?_) rfl (by kernel_rfl) (by kernel_rfl) (by kernel_rfl) (fun _ _ _ h => h) (Or.inl ⟨by rfl, ?_⟩) (by assumption) ?_; rotate_left 1; (focus (intro w hSw; (try dsimp only at hSw); go_simp <;> try (first | (with_reducible rfl) | (rw [if_neg (by omega)]) | (rw [if_pos (by omega)])))); try simp only [Act.put, List.setIfInBounds_toArray, List.set_cons_zero, List.set_cons_succ]))
    refine wpAnyH_ready (rs := [15]) (by kernel_rfl) (by simp) ?_
    refine AllReadyH.cons (o := ⟨some 20, _, _, _, _, _⟩) rfl (fun K hK => ?_) AllReadyH.nil
    go_simp
    clear hHeld
    (refine hK.out _ _ ?_ (fun hHeld => ?_))
    · exact trivial
    try simp only [Act.put, List.setIfInBounds_toArray, List.set_cons_zero, List.set_cons_succ]
    refine wpAnyH_ready (rs := [16]) (by kernel_rfl) (by simp) ?_
    refine AllReadyH.cons (o := ⟨some 21, _, _, _, _, _⟩) rfl (fun K hK => ?_) AllReadyH.nil
    go_simp
    refine (concatTT_t _ _ _ 1 1 _ _ _ _ _ (by simp) (cell_sl2 _ _ _ _).1 (cell_sl2 _ _ _ _).2 (by omega) (by omega) (HRA.out _) (HRB.out _)).mono ?_
    rintro e1 W1 ⟨B', d', rfl, b1, hw⟩
    have hrd := Lib.hid hw.rd
    have d1 : Below w.heap.size w W1 := ((Below.refl _ _).drew.alloc (by simp) _).trans (b1.mono (by simp))
    clear hw b1
    clear hHeld
    (refine hK.out _ _ ?_ (fun hHeld => ?_))
    · exact trivial
    ((refine wpAnyH_take (i := 17) (oi := ⟨some 4, _, _, _, _, _⟩) (v := ?_) rfl (by kernel_rfl) (by kernel_rfl) (by kernel_rfl) (fun _ _ _ h => h) (Or.inl ⟨by rfl, ?_⟩) (by assumption) ?_; rotate_left 1; (focus (intro w hSw; (try dsimp only at hSw); go_simp <;> try (first | (with_reducible rfl) | (rw [if_neg (by omega)]) | (rw [if_pos (by omega)])))); try simp only [Act.put, List.setIfInBounds_toArray, List.set_cons_zero, List.set_cons_succ]))
    refine wpAnyH_done (by kernel_rfl) ?_ _
    go_wp2
    go_ret
    first | exact ⟨_, _, rfl, d1, hrd.out⟩ | exact ⟨_, ⟨_, rfl⟩, d1, by first | exact hrd.out | simpa using hrd.out⟩
  · go_simp
    (refine hK.out _ _ ?_ (fun hHeld => ?_))
    · first | exact hHeld | exact trivial
    refine wpAnyH_ready (rs := [3, 13]) (by kernel_rfl) (by simp) ?_
    refine AllReadyH.cons (o := ⟨some 8, _, _, _, _, _⟩) rfl (fun K hK => ?_) (AllReadyH.cons (o := ⟨some 18, _, _, _, _, _⟩) rfl (fun K hK => ?_) AllReadyH.nil)
    · go_simp
      (refine hK.out _ _ ?_ (fun hHeld => ?_))
      · first | exact hHeld | exact trivial
      ((refine wpAnyH_take (i := 5) (oi := ⟨some 10, _, _, _, _, _⟩) (v := ?_) rfl (by kernel_rfl) (by kernel_rfl) (by kernel_rfl) (fun _ _ _ h => h) (Or.inl ⟨by rfl, ?_⟩) (by assumption) ?_; rotate_left 1; (focus (intro w hSw; (try dsimp only at hSw); go_simp <;> try (first | (with_reducible rfl) | (rw [if_neg (by omega)]) | (rw [if_pos (by omega)])))); try simp only [Act.put, List.setIfInBounds_toArray, List.set_cons_zero, List.set_cons_succ]))
      refine wpAnyH_ready (rs := [13]) (by kernel_rfl) (by simp) ?_
      refine AllReadyH.cons (o := ⟨some 18, _, _, _, _, _⟩) rfl (fun K hK => ?_) AllReadyH.nil
      go_simp
      (refine hK.out _ _ ?_ (fun hHeld => ?_))
      · first | exact hHeld | exact trivial
      ((refine wpAnyH_take (i := 14) (oi := ⟨some 19, _, _, _, _, _⟩) (v := ?_) rfl (by kernel_rfl) (by kernel_rfl) (by kernel_rfl) (fun _ _ _ h => h) (Or.inl ⟨by rfl, ?_⟩) (by assumption) ?_; rotate_left 1; (focus (intro w hSw; (try dsimp only at hSw); go_simp <;> try (first | (with_reducible rfl) | (rw [if_neg (by omega)]) | (rw [if_pos (by omega)])))); try simp only [Act.put, List.setIfInBounds_toArray, List.set_cons_zero, List.set_cons_succ]))
      refine wpAnyH_ready (rs := [15]) (by kernel_rfl) (by simp) ?_
      refine AllReadyH.cons (o := ⟨some 20, _, _, _, _, _⟩) rfl (fun K hK => ?_) AllReadyH.nil
      go_simp
      clear hHeld
      (refine hK.out _ _ ?_ (fun hHeld => ?_))
      · exact trivial
      try simp only [Act.put, List.setIfInBounds_toArray, List.set_cons_zero, List.set_cons_succ]
      refine wpAnyH_ready (rs := [16]) (by kernel_rfl) (by simp) ?_
      refine AllReadyH.cons (o := ⟨some 21, _, _, _, _, _⟩) rfl (fun K hK => ?_) AllReadyH.nil
      go_simp
      refine (concatTT_t _ _ _ 1 1 _ _ _ _ _ (by simp) (cell_sl2 _ _ _ _).1 (cell_sl2 _ _ _ _).2 (by omega) (by omega) (HRA.out _) (HRB.out _)).mono ?_
      rintro e1 W1 ⟨B', d', rfl, b1, hw⟩
      have hrd := Lib.hid hw.rd
      have d1 : Below w.heap.size w W1 := ((Below.refl _ _).drew.alloc (by simp) _).trans (b1.mono (by simp))
      clear hw b1
      clear hHeld
      (refine hK.out _ _ ?_ (fun hHeld => ?_))
      · exact trivial
      ((refine wpAnyH_take (i := 17) (oi := ⟨some 4, _, _, _, _, _⟩) (v := ?_) rfl (by kernel_rfl) (by kernel_rfl) (by kernel_rfl) (fun _ _ _ h => h) (Or.inl ⟨by rfl, ?_⟩) (by assumption) ?_; rotate_left 1; (focus (intro w hSw; (try dsimp only at hSw); go_simp <;> try (first | (with_reducible rfl) | (rw [if_neg (by omega)]) | (rw [if_pos (by omega)])))); try simp only [Act.put, List.setIfInBounds_toArray, List.set_cons_zero, List.set_cons_succ]))
      refine wpAnyH_done (by kernel_rfl) ?_ _
      go_wp2
      go_ret
      first | exact ⟨_, _, rfl, d1, hrd.out⟩ | exact ⟨_, ⟨_, rfl⟩, d1, by first | exact hrd.out | simpa using hrd.out⟩
    · go_simp
      (refine hK.out _ _ ?_ (fun hHeld => ?_))
      · first | exact hHeld | exact trivial
      ((refine wpAnyH_take (i := 14) (oi := ⟨some 19, _, _, _, _, _⟩) (v := ?_) rfl (by kernel_rfl) (by kernel_rfl) (by kernel_rfl) (fun _ _ _ h => h) (Or.inl ⟨by rfl, ?_⟩) (by assumption) ?_; rotate_left 1; (focus (intro w hSw; (try dsimp only at hSw); go_simp <;> try (first | (with_reducible rfl) | (rw [if_neg (by omega)]) | (rw [if_pos (by omega)])))); try simp only [Act.put, List.setIfInBounds_toArray, List.set_cons_zero, List.set_cons_succ]))
      refine wpAnyH_ready (rs := [3]) (by kernel_rfl) (by simp) ?_
      refine AllReadyH.cons (o := ⟨some 8, _, _, _, _, _⟩) rfl (fun K hK => ?_) AllReadyH.nil
      go_simp
      (refine hK.out _ _ ?_ (fun hHeld => ?_))
      · first | exact hHeld | exact trivial
      ((refine wpAnyH_take (i := 5) (oi := ⟨some 10, _, _, _, _, _⟩) (v := ?_) rfl (by kernel_rfl) (by kernel_rfl) (by kernel_rfl) (fun _ _ _ h => h) (Or.inl ⟨by rfl, ?_⟩) (by assumption) ?_; rotate_left 1; (focus (intro w hSw; (try dsimp only at hSw); go_simp <;> try (first | (with_reducible rfl) | (rw [if_neg (by omega)]) | (rw [if_pos (by omega)])))); try simp only [Act.put, List.setIfInBounds_toArray, List.set_cons_zero, List.set_cons_succ]))
      refine wpAnyH_ready (rs := [15]) (by kernel_rfl) (by simp) ?_
      refine AllReadyH.cons (o := ⟨some 20, _, _, _, _, _⟩) rfl (fun K hK => ?_) AllReadyH.nil
      go_simp
      clear hHeld
      (refine hK.out _ _ ?_ (fun hHeld => ?_))
      · exact trivial
      try simp only [Act.put, List.setIfInBounds_toArray, List.set_cons_zero, List.set_cons_succ]
      refine wpAnyH_ready (rs := [16]) (by kernel_rfl) (by simp) ?_
      refine AllReadyH.cons (o := ⟨some 21, _, _, _, _, _⟩) rfl (fun K hK => ?_) AllReadyH.nil
      go_simp
      refine (concatTT_t _ _ _ 1 1 _ _ _ _ _ (by simp) (cell_sl2 _ _ _ _).1 (cell_sl2 _ _ _ _).2 (by omega) (by omega) (HRA.out _) (HRB.out _)).mono ?_
      rintro e1 W1 ⟨B', d', rfl, b1, hw⟩
      have hrd := Lib.hid hw.rd
      have d1 : Below w.heap.size w W1 := ((Below.refl _ _).drew.alloc (by simp) _).trans (b1.mono (by simp))
      clear hw b1
      clear hHeld
      (refine hK.out _ _ ?_ (fun hHeld => ?_))
      · exact trivial
      ((refine wpAnyH_take (i := 17) (oi := ⟨some 4, _, _, _, _, _⟩) (v := ?_) rfl (by kernel_rfl) (by kernel_rfl) (by kernel_rfl) (fun _ _ _ h => h) (Or.inl ⟨by rfl, ?_⟩) (by assumption) ?_; rotate_left 1; (focus (intro w hSw; (try dsimp only at hSw); go_simp <;> try (first | (with_reducible rfl) | (rw [if_neg (by omega)]) | (rw [if_pos (by omega)])))); try simp only [Act.put, List.setIfInBounds_toArray, List.set_cons_zero, List.set_cons_succ]))
      refine wpAnyH_done (by kernel_rfl) ?_ _
      go_wp2
      go_ret
      first | exact ⟨_, _, rfl, d1, hrd.out⟩ | exact ⟨_, ⟨_, rfl⟩, d1, by first | exact hrd.out | simpa using hrd.out⟩

set_option maxRecDepth 100000 in
set_option maxHeartbeats 3200000 in
theorem nextTo_hi (b o n c k : Nat) (xs : List RTide) (w : World) (hn : n ≤ 1048576) (hcap : n ≤ c) (ha : Rd_Tide w w.heap.size (some ⟨b, o, none⟩) n xs) (h0 : 0 < k) (h1 : k + 1 = n) :
    Calls Tryd.prog 104 #[.slice (some ⟨b, o, none⟩) n c, .int .i64 (k : Int)] w fun e w' => ∃ B d, e = .returned (.slice B (nxL n xs k).length d) ∧ Below w.heap.size w w' ∧ Rd_Tide w' w'.heap.size B (nxL n xs k).length (nxL n xs k) := by
  have HA := Lib.hid ha
  have HX := Lib.hid (show nxL n xs k = [xs.getD (k - 1) zTide] ++ [] by unfold nxL; rw [if_pos (by omega), if_neg (by omega)])
  rw [HX.out]
  clear ha HX
  obtain ⟨j, hj⟩ : ∃ j, j = k - 1 := ⟨_, rfl⟩
  obtain ⟨p, hp⟩ : ∃ p, p = k + 1 := ⟨_, rfl⟩
  obtain ⟨q, hq⟩ : ∃ q, q = k + 2 := ⟨_, rfl⟩
  have x1 : IntKind.i64.wrap ((k : Int) - 1) = (j : Int) := (IntWalk.i64_in _ (by omega)).trans (by omega)
  have x2 : IntKind.i64.wrap ((k : Int) + 1) = (p : Int) := (IntWalk.i64_in _ (by omega)).trans (by omega)
  have x3 : IntKind.i64.wrap ((k : Int) + 2) = (q : Int) := (IntWalk.i64_in _ (by omega)).trans (by omega)
  have x4 : (if (j : Int) < 0 then 0 else (j : Int)) = (j : Int) := if_neg (by omega)
  have s1 : (j : Int) ≤ (k : Int) := by omega
  have s2 : (k : Int) ≤ (c : Int) := by omega
  have e1 : k - j = 1 := by omega
  have e0 : ¬ c = j := by omega
  have HR1 := Lib.hid (show Rd_Tide w w.heap.size (some ⟨b, o + j * 2, none⟩) 1 [xs.getD (k - 1) zTide] by rw [hj]; exact HA.out.one (k := k - 1) (by omega))
  have HRA := Lib.hid (fun (O : Obj) => (Rd_Tide.mono (Rd_Tide.below HR1.out ((Below.refl w.heap.size w).drew.alloc (by simp) O)) (B' := (w.drew.alloc O).heap.size) (by simp)))
  have x5 : n < q := by omega
  have s3 : p ≤ n := by omega
  have s4 : (n : Int) ≤ (c : Int) := by omega
  have e2 : n - p = 0 := by omega
  clear hj hp hq HR1
  obtain ⟨A2, hA2⟩ : ∃ A2, (if c = p then some (⟨b, o, none⟩ : Addr) else some ⟨b, o + p * 2, none⟩) = A2 := ⟨_, rfl⟩
  go_enter Tryd.func104, Tryd.ntmps104
  go_wp2_with fail
  refine wp_region_held_drew (S := fun w' => True) (by kernel_rfl) trivial (fun hHeld => ?_)
  ((refine wpAnyH_take (i := 0) (oi := ⟨some 5, _, _, _, _, _⟩) (v := ?_) rfl (by kernel_rfl) (by kernel_rfl) (by kernel_rfl) (fun _ _ _ h => h) (Or.inl ⟨by rfl, ?_⟩) (by assumption) ?_; rotate_left 1; (focus (intro w hSw; (try dsimp only at hSw); go_simp <;> try (first | (with_reducible rfl) | (rw [if_neg (by omega)]) | (rw [if_pos (by omega)])))); try simp only [Act.put, List.setIfInBounds_toArray, List.set_cons_zero, List.set_cons_succ]); (refine wpAnyH_take (i := 1) (oi := ⟨some 6, _, _, _, _, _⟩) (v := ?_) rfl (by kernel_rfl) (by kernel_rfl) (by kernel_rfl) (fun _ _ _ h => h) (Or.inl ⟨by rfl, ?_⟩) (by assumption) ?_; rotate_left 1; (focus (intro w hSw; (try dsimp only at hSw); go_simp <;> try (first | (with_reducible rfl) | (rw [if_neg (by omega)]) | (rw [if_pos (by omega)])))); try simp only [Act.put, List.setIfInBounds_toArray, List.set_cons_zero, List.set_cons_succ]); (refine wpAnyH_take (i := 2) (oi := ⟨some 7, _, _, _, _, _⟩) (v := ?_) rfl (by kernel_rfl) (by kernel_rfl) (by kernel_rfl) (fun _ _ _ h => h) (Or.inl ⟨by rfl, ?_⟩) (by assumption) ?_; rotate_left 1; (focus (intro w hSw; (try dsimp only at hSw); go_simp <;> try (first | (with_reducible rfl) | (rw [if_neg (by omega)]) | (rw [if_pos (by omega)])))); try simp only [Act.put, List.setIfInBounds_toArray, List.set_cons_zero, List.set_cons_succ]); (refine wpAnyH_take (i := 4) (oi := ⟨some 9, _, _, _, _, _⟩) (v := ?_) rfl (by kernel_rfl) (by kernel_rfl) (by kernel_rfl) (fun _ _ _ h => h) (Or.inl ⟨by rfl, ?_⟩) (by assumption) ?_; rotate_left 1; (focus (intro w hSw; (try dsimp only at hSw); go_simp <;> try (first | (with_reducible rfl) | (rw [if_neg (by omega)]) | (rw [if_pos (by omega)])))); try simp only [Act.put, List.setIfInBounds_toArray, List.set_cons_zero, List.set_cons_succ]); (refine wpAnyH_take (i := 6) (oi := ⟨some 11, _, _, _, _, _⟩) (v := ?_) rfl (by kernel_rfl) (by kernel_rfl) (by kernel_rfl) (fun _ _ _ h => h) (Or.inl ⟨by rfl, ?_⟩) (by assumption) ?_; rotate_left 1; (focus (intro w hSw; (try dsimp only at hSw); go_simp <;> try (first | (with_reducible rfl) | (rw [if_neg (by omega)]) | (rw [if_pos (by omega)])))); try simp only [Act.put, List.setIfInBounds_toArray, List.set_cons_zero, List.set_cons_succ]); (refine wpAnyH_take (i := 7) (oi := ⟨some 12, _, _, _, _, _⟩) (v := ?_) rfl (by kernel_rfl) (by kernel_rfl) (by kernel_rfl) (fun _ _ _ h => h) (Or.inl ⟨by rfl, ?_⟩) (by assumption) ?_; rotate_left 1; (focus (intro w hSw; (try dsimp only at hSw); go_simp <;> try (first | (with_reducible rfl) | (rw [if_neg (by omega)]) | (rw [if_pos (by omega)])))); try simp only [Act.put, List.setIfInBounds_toArray, List.set_cons_zero, List.set_cons_succ]); (refine wpAnyH_take (i := 8) (oi := ⟨some 13, _, _, _, _, _⟩) (v := ?_) rfl (by kernel_rfl) (by kernel_rfl) (by kernel_rfl) (fun _ _ _ h => h) (Or.inl ⟨by rfl, ?_⟩) (by assumption) ?_; rotate_left 1; (focus (intro w hSw; (try dsimp only at hSw); go_simp <;> try (first | (with_reducible rfl) | (rw [if_neg (by omega)]) | (rw [if_pos (by omega)])))); try simp only [Act.put, List.setIfInBounds_toArray, List.set_cons_zero, List.set_cons_succ]); (refine wpAnyH_take (i := 9) (oi := ⟨some 14, _, _, _, _, _⟩) (v := ?_) rfl (by kernel_rfl) (by kernel_rfl) (by kernel_rfl) (fun _ _ _ h => h) (Or.inl ⟨by rfl, ?_⟩) (by assumption) ?_; rotate_left 1; (focus (intro w hSw; (try dsimp only at hSw); go_simp <;> try (first | (with_reducible rfl) | (rw [if_neg (by omega)]) | (rw [if_pos (by omega)])))); try simp only [Act.put, List.setIfInBounds_toArray, List.set_cons_zero, List.set_cons_succ]); (refine wpAnyH_take (i := 10) (oi := ⟨some 15, _, _, _, _, _⟩) (v := ?_) rfl (by kernel_rfl) (by kernel_rfl) (by kernel_rfl) (fun _ _ _ h => h) (Or.inl ⟨by rfl, ?_⟩) (by assumption) ?_; rotate_left 1; (focus (intro w hSw; (try dsimp only at hSw); go_simp <;> try (first | (with_reducible rfl) | (rw [if_neg (by omega)]) | (rw [if_pos (by omega)])))); try simp only [Act.put, List.setIfInBounds_toArray, List.set_cons_zero, List.set_cons_succ]); (refine wpAnyH_take (i := 11) (oi := ⟨some 16, _, _, _, _, _⟩) (v := ?_) rfl (by kernel_rfl) (by kernel_rfl) (by kernel_rfl) (fun _ _ _ h => h) (Or.inl ⟨by rfl, ?_⟩) (by assumption) ?_; rotate_left 1; (focus (intro w hSw; (try dsimp only at hSw); go_simp <;> try (first | (with_reducible rfl) | (rw [if_neg (by omega)]) | (rw [if_pos (by omega)])))); try simp only [Act.put, List.setIfInBounds_toArray, List.set_cons_zero, List.set_cons_succ]))
  refine wpAnyH_ready (rs := [3, 12]) (by kernel_rfl) (by simp) ?_
  refine AllReadyH.cons (o := ⟨some 8, _, _, _, _, _⟩) rfl (fun K hK => ?_) (AllReadyH.cons (o := ⟨some 17, _, _, _, _, _⟩) rfl (fun K hK => ?_) AllReadyH.nil)
  · go_simp
    (refine hK.out _ _ ?_ (fun hHeld => ?_))
    · first | exact hHeld | exact trivial
    ((refine wpAnyH_take (i := 5) (oi := ⟨some 10, _, _, _, _, _⟩) (v := ?_) rfl (by kernel_rfl) (by kernel_rfl) (by kernel_rfl) (fun _ _ _ h => h) (Or.inl ⟨by rfl, ?_⟩) (by assumption) ?_; rotate_left 1; (focus (intro w hSw; (try dsimp only at hSw); go_simp <;> try (first | (with_reducible rfl) | (rw [if_neg (by omega)]) | (rw [if_pos (by omega)])))); try simp only [Act.put, List.setIfInBounds_toArray, List.set_cons_zero, List.set_cons_succ]))
    refine wpAnyH_ready (rs := [12]) (by kernel_rfl) (by simp) ?_
    refine AllReadyH.cons (o := ⟨some 17, _, _, _, _, _⟩) rfl (fun K hK => ?_) AllReadyH.nil
    go_simp
    (refine hK.out _ _ ?_ (fun hHeld => ?_))
    · first | exact hHeld | exact trivial
    refine wpAnyH_ready (rs := [13]) (by kernel_rfl) (by simp) ?_
    refine AllReadyH.cons (o := ⟨some 18, _, _, _, _, _⟩) rfl (fun K hK => ?_) AllReadyH.nil
    go_simp
    (refine hK.out _ _ ?_ (fun hHeld => ?_))
    · first | exact hHeld | exact trivial
    ((refine wpAnyH_take (i := 14) (oi := ⟨some 19, _, _, _, _, _⟩) (v := ?_) rfl (by kernel_rfl) (by kernel_rfl) (by kernel_rfl) (fun _ _ _ h => h) (Or.inl ⟨by rfl, ?_⟩) (by assumption) ?_; rotate_left 1; (focus (intro w hSw; (try dsimp only at hSw); go_simp <;> try (first | (with_reducible rfl) | (rw [if_neg (by omega)]) | (rw [if_pos (by omega)])))); try simp only [Act.put, List.setIfInBounds_toArray, List.set_cons_zero, List.set_cons_succ]))
    refine wpAnyH_ready (rs := [15]) (by kernel_rfl) (by simp) ?_
    refine AllReadyH.cons (o := ⟨some 20, _, _, _, _, _⟩) rfl (fun K hK => ?_) AllReadyH.nil
    go_simp
    clear hHeld
    (refine hK.out _ _ ?_ (fun hHeld => ?_))
    · exact trivial
    try simp only [Act.put, List.setIfInBounds_toArray, List.set_cons_zero, List.set_cons_succ]
    refine wpAnyH_ready (rs := [16]) (by kernel_rfl) (by simp) ?_
    refine AllReadyH.cons (o := ⟨some 21, _, _, _, _, _⟩) rfl (fun K hK => ?_) AllReadyH.nil
    go_simp
    refine (concatTT_t _ _ _ 1 0 _ _ _ _ _ (by simp) (cell_sl2 _ _ _ _).1 (cell_sl2 _ _ _ _).2 (by omega) (by omega) (HRA.out _) (rd_nilT _ _ _)).mono ?_
    rintro e1 W1 ⟨B', d', rfl, b1, hw⟩
    have hrd := Lib.hid hw.rd
    have d1 : Below w.heap.size w W1 := ((Below.refl _ _).drew.alloc (by simp) _).trans (b1.mono (by simp))
    clear hw b1
    clear hHeld
    (refine hK.out _ _ ?_ (fun hHeld => ?_))
    · exact trivial
    ((refine wpAnyH_take (i := 17) (oi := ⟨some 4, _, _, _, _, _⟩) (v := ?_) rfl (by kernel_rfl) (by kernel_rfl) (by kernel_rfl) (fun _ _ _ h => h) (Or.inl ⟨by rfl, ?_⟩) (by assumption) ?_; rotate_left 1; (focus (intro w hSw; (try dsimp only at hSw); go_simp <;> try (first | (with_reducible rfl) | (rw [if_neg (by omega)]) | (rw [if_pos (by omega)])))); try simp only [Act.put, List.setIfInBounds_toArray, List.set_cons_zero, List.set_cons_succ]))
    refine wpAnyH_done (by kernel_rfl) ?_ _
    go_wp2
    go_ret
    first | exact ⟨_, _, rfl, d1, hrd.out⟩ | exact ⟨_, ⟨_, rfl⟩, d1, by first | exact hrd.out | simpa using hrd.out⟩
  · go_simp
    (refine hK.out _ _ ?_ (fun hHeld => ?_))
    · first | exact hHeld | exact trivial
    refine wpAnyH_ready (rs := [3, 13]) (by kernel_rfl) (by simp) ?_
    refine AllReadyH.cons (o := ⟨some 8, _, _, _, _, _⟩) rfl (fun K hK => ?_) (AllReadyH.cons (o := ⟨some 18, _, _, _, _, _⟩) rfl (fun K hK => ?_) AllReadyH.nil)
    · go_simp
      (refine hK.out _ _ ?_ (fun hHeld => ?_))
      · first | exact hHeld | exact trivial
      ((refine wpAnyH_take (i := 5) (oi := ⟨some 10, _, _, _, _, _⟩) (v := ?_) rfl (by kernel_rfl) (by kernel_rfl) (by kernel_rfl) (fun _ _ _ h => h) (Or.inl ⟨by rfl, ?_⟩) (by assumption) ?_; rotate_left 1; (focus (intro w hSw; (try dsimp only at hSw); go_simp <;> try (first | (with_reducible rfl) | (rw [if_neg (by omega)]) | (rw [if_pos (by omega)])))); try simp only [Act.put, List.setIfInBounds_toArray, List.set_cons_zero, List.set_cons_succ]))
      refine wpAnyH_ready (rs := [13]) (by kernel_rfl) (by simp) ?_
      refine AllReadyH.cons (o := ⟨some 18, _, _, _, _, _⟩) rfl (fun K hK => ?_) AllReadyH.nil
      go_simp
      (refine hK.out _ _ ?_ (fun hHeld => ?_))
      · first | exact hHeld | exact trivial
      ((refine wpAnyH_take (i := 14) (oi := ⟨some 19, _, _, _, _, _⟩) (v := ?_) rfl (by kernel_rfl) (by kernel_rfl) (by kernel_rfl) (fun _ _ _ h => h) (Or.inl ⟨by rfl, ?_⟩) (by assumption) ?_; rotate_left 1; (focus (intro w hSw; (try dsimp only at hSw); go_simp <;> try (first | (with_reducible rfl) | (rw [if_neg (by omega)]) | (rw [if_pos (by omega)])))); try simp only [Act.put, List.setIfInBounds_toArray, List.set_cons_zero, List.set_cons_succ]))
      refine wpAnyH_ready (rs := [15]) (by kernel_rfl) (by simp) ?_
      refine AllReadyH.cons (o := ⟨some 20, _, _, _, _, _⟩) rfl (fun K hK => ?_) AllReadyH.nil
      go_simp
      clear hHeld
      (refine hK.out _ _ ?_ (fun hHeld => ?_))
      · exact trivial
      try simp only [Act.put, List.setIfInBounds_toArray, List.set_cons_zero, List.set_cons_succ]
      refine wpAnyH_ready (rs := [16]) (by kernel_rfl) (by simp) ?_
      refine AllReadyH.cons (o := ⟨some 21, _, _, _, _, _⟩) rfl (fun K hK => ?_) AllReadyH.nil
      go_simp
      refine (concatTT_t _ _ _ 1 0 _ _ _ _ _ (by simp) (cell_sl2 _ _ _ _).1 (cell_sl2 _ _ _ _).2 (by omega) (by omega) (HRA.out _) (rd_nilT _ _ _)).mono ?_
      rintro e1 W1 ⟨B', d', rfl, b1, hw⟩
      have hrd := Lib.hid hw.rd
      have d1 : Below w.heap.size w W1 := ((Below.refl _ _).drew.alloc (by simp) _).trans (b1.mono (by simp))
      clear hw b1
      clear hHeld
      (refine hK.out _ _ ?_ (fun hHeld => ?_))
      · exact trivial
      ((refine wpAnyH_take (i := 17) (oi := ⟨some 4, _, _, _, _, _⟩) (v := ?_) rfl (by kernel_rfl) (by kernel_rfl) (by kernel_rfl) (fun _ _ _ h => h) (Or.inl ⟨by rfl, ?_⟩) (by assumption) ?_; rotate_left 1; (focus (intro w hSw; (try dsimp only at hSw); go_simp <;> try (first | (with_reducible rfl) | (rw [if_neg (by omega)]) | (rw [if_pos (by omega)])))); try simp only [Act.put, List.setIfInBounds_toArray, List.set_cons_zero, List.set_cons_succ]))
      refine wpAnyH_done (by kernel_rfl) ?_ _
      go_wp2
      go_ret
      first | exact ⟨_, _, rfl, d1, hrd.out⟩ | exact ⟨_, ⟨_, rfl⟩, d1, by first | exact hrd.out | simpa using hrd.out⟩
    · go_simp
      (refine hK.out _ _ ?_ (fun hHeld => ?_))
      · first | exact hHeld | exact trivial
      ((refine wpAnyH_take (i := 14) (oi := ⟨some 19, _, _, _, _, _⟩) (v := ?_) rfl (by kernel_rfl) (by kernel_rfl) (by kernel_rfl) (fun _ _ _ h => h) (Or.inl ⟨by rfl, ?_⟩) (by assumption) ?_; rotate_left 1; (focus (intro w hSw; (try dsimp only at hSw); go_simp <;> try (first | (with_reducible rfl) | (rw [if_neg (by omega)]) | (rw [if_pos (by omega)])))); try simp only [Act.put, List.setIfInBounds_toArray, List.set_cons_zero, List.set_cons_succ]))
      refine wpAnyH_ready (rs := [3]) (by kernel_rfl) (by simp) ?_
      refine AllReadyH.cons (o := ⟨some 8, _, _, _, _, _⟩) rfl (fun K hK => ?_) AllReadyH.nil
      go_simp
      (refine hK.out _ _ ?_ (fun hHeld => ?_))
      · first | exact hHeld | exact trivial
      ((refine wpAnyH_take (i := 5) (oi := ⟨some 10, _, _, _, _, _⟩) (v := ?_) rfl (by kernel_rfl) (by kernel_rfl) (by kernel_rfl) (fun _ _ _ h => h) (Or.inl ⟨by rfl, ?_⟩) (by assumption) ?_; rotate_left 1; (focus (intro w hSw; (try dsimp only at hSw); go_simp <;> try (first | (with_reducible rfl) | (rw [if_neg (by omega)]) | (rw [if_pos (by omega)])))); try simp only [Act.put, List.setIfInBounds_toArray, List.set_cons_zero, List.set_cons_succ]))
      refine wpAnyH_ready (rs := [15]) (by kernel_rfl) (by simp) ?_
      refine AllReadyH.cons (o := ⟨some 20, _, _, _, _, _⟩) rfl (fun K hK => ?_) AllReadyH.nil
      go_simp
      clear hHeld
      (refine hK.out _ _ ?_ (fun hHeld => ?_))
      · exact trivial
      try simp only [Act.put, List.setIfInBounds_toArray, List.set_cons_zero, List.set_cons_succ]
      refine wpAnyH_ready (rs := [16]) (by kernel_rfl) (by simp) ?_
      refine AllReadyH.cons (o := ⟨some 21, _, _, _, _, _⟩) rfl (fun K hK => ?_) AllReadyH.nil
      go_simp
      refine (concatTT_t _ _ _ 1 0 _ _ _ _ _ (by simp) (cell_sl2 _ _ _ _).1 (cell_sl2 _ _ _ _).2 (by omega) (by omega) (HRA.out _) (rd_nilT _ _ _)).mono ?_
      rintro e1 W1 ⟨B', d', rfl, b1, hw⟩
      have hrd := Lib.hid hw.rd
      have d1 : Below w.heap.size w W1 := ((Below.refl _ _).drew.alloc (by simp) _).trans (b1.mono (by simp))
      clear hw b1
      clear hHeld
      (refine hK.out _ _ ?_ (fun hHeld => ?_))
      · exact trivial
      ((refine wpAnyH_take (i := 17) (oi := ⟨some 4, _, _, _, _, _⟩) (v := ?_) rfl (by kernel_rfl) (by kernel_rfl) (by kernel_rfl) (fun _ _ _ h => h) (Or.inl ⟨by rfl, ?_⟩) (by assumption) ?_; rotate_left 1; (focus (intro w hSw; (try dsimp only at hSw); go_simp <;> try (first | (with_reducible rfl) | (rw [if_neg (by omega)]) | (rw [if_pos (by omega)])))); try simp only [Act.put, List.setIfInBounds_toArray, List.set_cons_zero, List.set_cons_succ]))
      refine wpAnyH_done (by kernel_rfl) ?_ _
      go_wp2
      go_ret
      first | exact ⟨_, _, rfl, d1, hrd.out⟩ | exact ⟨_, ⟨_, rfl⟩, d1, by first | exact hrd.out | simpa using hrd.out⟩

set_option maxRecDepth 100000 in
set_option maxHeartbeats 3200000 in
theorem nextTo_one (b o n c k : Nat) (xs : List RTide) (w : World) (hn : n ≤ 1048576) (hcap : n ≤ c) (ha : Rd_Tide w w.heap.size (some ⟨b, o, none⟩) n xs) (h0 : k = 0) (h1 : n = 1) :
    Calls Tryd.prog 104 #[.slice (some ⟨b, o, none⟩) n c, .int .i64 (k : Int)] w fun e w' => ∃ B d, e = .returned (.slice B (nxL n xs k).length d) ∧ Below w.heap.size w w' ∧ Rd_Tide w' w'.heap.size B (nxL n xs k).length (nxL n xs k) := by
  subst h0
  subst h1
  have HA := Lib.hid ha
  have HX := Lib.hid (show nxL 1 xs 0 = [] ++ [] by unfold nxL; rw [if_neg (by omega), if_neg (by omega)])
  rw [HX.out]
  clear ha HX
  have u1 : IntKind.i64.wrap (-1) = -1 := rfl
  have u2 : IntKind.i64.wrap 1 = 1 := rfl
  have u3 : IntKind.i64.wrap 2 = 2 := rfl
  have y2 : (1 : Int) ≤ (c : Int) := by omega
  have y3 : ¬ c = 0 := by omega
  obtain ⟨A2, hA2⟩ : ∃ A2, (if c = 1 then some (⟨b, o, none⟩ : Addr) else some ⟨b, o + 2, none⟩) = A2 := ⟨_, rfl⟩
  go_enter Tryd.func104, Tryd.ntmps104
  go_wp2_with fail
  refine wp_region_held_drew (S := fun w' => True) (by kernel_rfl) trivial (fun hHeld => ?_)
  ((refine wpAnyH_take (i := 0) (oi := ⟨some 5, _, _, _, _, _⟩) (v := ?_) rfl (by kernel_rfl) (by kernel_rfl) (by kernel_rfl) (fun _ _ _ h => h) (Or.inl ⟨by rfl, ?_⟩) (by assumption) ?_; rotate_left 1; (focus (intro w hSw; (try dsimp only at hSw); go_simp <;> try (first | (with_reducible rfl) | (rw [if_neg (by omega)]) | (rw [if_pos (by omega)])))); try simp only [Act.put, List.setIfInBounds_toArray, List.set_cons_zero, List.set_cons_succ]); (refine wpAnyH_take (i := 1) (oi := ⟨some 6, _, _, _, _, _⟩) (v := ?_) rfl (by kernel_rfl) (by kernel_rfl) (by kernel_rfl) (fun _ _ _ h => h) (Or.inl ⟨by rfl, ?_⟩) (by assumption) ?_; rotate_left 1; (focus (intro w hSw; (try dsimp only at hSw); go_simp <;> try (first | (with_reducible rfl) | (rw [if_neg (by omega)]) | (rw [if_pos (by omega)])))); try simp only [Act.put, List.setIfInBounds_toArray, List.set_cons_zero, List.set_cons_succ]); (refine wpAnyH_take (i := 2) (oi := ⟨some 7, _, _, _, _, _⟩) (v := ?_) rfl (by kernel_rfl) (by kernel_rfl) (by kernel_rfl) (fun _ _ _ h => h) (Or.inl ⟨by rfl, ?_⟩) (by assumption) ?_; rotate_left 1; (focus (intro w hSw; (try dsimp only at hSw); go_simp <;> try (first | (with_reducible rfl) | (rw [if_neg (by omega)]) | (rw [if_pos (by omega)])))); try simp only [Act.put, List.setIfInBounds_toArray, List.set_cons_zero, List.set_cons_succ]); (refine wpAnyH_take (i := 4) (oi := ⟨some 9, _, _, _, _, _⟩) (v := ?_) rfl (by kernel_rfl) (by kernel_rfl) (by kernel_rfl) (fun _ _ _ h => h) (Or.inl ⟨by rfl, ?_⟩) (by assumption) ?_; rotate_left 1; (focus (intro w hSw; (try dsimp only at hSw); go_simp <;> try (first | (with_reducible rfl) | (rw [if_neg (by omega)]) | (rw [if_pos (by omega)])))); try simp only [Act.put, List.setIfInBounds_toArray, List.set_cons_zero, List.set_cons_succ]); (refine wpAnyH_take (i := 6) (oi := ⟨some 11, _, _, _, _, _⟩) (v := ?_) rfl (by kernel_rfl) (by kernel_rfl) (by kernel_rfl) (fun _ _ _ h => h) (Or.inl ⟨by rfl, ?_⟩) (by assumption) ?_; rotate_left 1; (focus (intro w hSw; (try dsimp only at hSw); go_simp <;> try (first | (with_reducible rfl) | (rw [if_neg (by omega)]) | (rw [if_pos (by omega)])))); try simp only [Act.put, List.setIfInBounds_toArray, List.set_cons_zero, List.set_cons_succ]); (refine wpAnyH_take (i := 7) (oi := ⟨some 12, _, _, _, _, _⟩) (v := ?_) rfl (by kernel_rfl) (by kernel_rfl) (by kernel_rfl) (fun _ _ _ h => h) (Or.inl ⟨by rfl, ?_⟩) (by assumption) ?_; rotate_left 1; (focus (intro w hSw; (try dsimp only at hSw); go_simp <;> try (first | (with_reducible rfl) | (rw [if_neg (by omega)]) | (rw [if_pos (by omega)])))); try simp only [Act.put, List.setIfInBounds_toArray, List.set_cons_zero, List.set_cons_succ]); (refine wpAnyH_take (i := 8) (oi := ⟨some 13, _, _, _, _, _⟩) (v := ?_) rfl (by kernel_rfl) (by kernel_rfl) (by kernel_rfl) (fun _ _ _ h => h) (Or.inl ⟨by rfl, ?_⟩) (by assumption) ?_; rotate_left 1; (focus (intro w hSw; (try dsimp only at hSw); go_simp <;> try (first | (with_reducible rfl) | (rw [if_neg (by omega)]) | (rw [if_pos (by omega)])))); try simp only [Act.put, List.setIfInBounds_toArray, List.set_cons_zero, List.set_cons_succ]); (refine wpAnyH_take (i := 9) (oi := ⟨some 14, _, _, _, _, _⟩) (v := ?_) rfl (by kernel_rfl) (by kernel_rfl) (by kernel_rfl) (fun _ _ _ h => h) (Or.inl ⟨by rfl, ?_⟩) (by assumption) ?_; rotate_left 1; (focus (intro w hSw; (try dsimp only at hSw); go_simp <;> try (first | (with_reducible rfl) | (rw [if_neg (by omega)]) | (rw [if_pos (by omega)])))); try simp only [Act.put, List.setIfInBounds_toArray, List.set_cons_zero, List.set_cons_succ]); (refine wpAnyH_take (i := 10) (oi := ⟨some 15, _, _, _, _, _⟩) (v := ?_) rfl (by kernel_rfl) (by kernel_rfl) (by kernel_rfl) (fun _ _ _ h => h) (Or.inl ⟨by rfl, ?_⟩) (by assumption) ?_; rotate_left 1; (focus (intro w hSw; (try dsimp only at hSw); go_simp <;> try (first | (with_reducible rfl) | (rw [if_neg (by omega)]) | (rw [if_pos (by omega)])))); try simp only [Act.put, List.setIfInBounds_toArray, List.set_cons_zero, List.set_cons_succ]); (refine wpAnyH_take (i := 11) (oi := ⟨some 16, _, _, _, _, _⟩) (v := ?_) rfl (by kernel_rfl) (by kernel_rfl) (by kernel_rfl) (fun _ _ _ h => h) (Or.inl ⟨by rfl, ?_⟩) (by assumption) ?_; rotate_left 1; (focus (intro w hSw; (try dsimp only at hSw); go_simp <;> try (first | (with_reducible rfl) | (rw [if_neg (by omega)]) | (rw [if_pos (by omega)])))); try simp only [Act.put, List.setIfInBounds_toArray, List.set_cons_zero, List.set_cons_succ]))
  refine wpAnyH_ready (rs := [3, 12]) (by kernel_rfl) (by simp) ?_
  refine AllReadyH.cons (o := ⟨some 8, _, _, _, _, _⟩) rfl (fun K hK => ?_) (AllReadyH.cons (o := ⟨some 17, _, _, _, _, _⟩) rfl (fun K hK => ?_) AllReadyH.nil)
  · go_simp
    (refine hK.out _ _ ?_ (fun hHeld => ?_))
    · first | exact hHeld | exact trivial
    ((refine wpAnyH_take (i := 5) (oi := ⟨some 10, _, _, _, _, _⟩) (v := ?_) rfl (by kernel_rfl) (by kernel_rfl) (by kernel_rfl) (fun _ _ _ h => h) (Or.inl ⟨by rfl, ?_⟩) (by assumption) ?_; rotate_left 1; (focus (intro w hSw; (try dsimp only at hSw); go_simp <;> try (first | (with_reducible rfl) | (rw [if_neg (by omega)]) | (rw [if_pos (by omega)])))); try simp only [Act.put, List.setIfInBounds_toArray, List.set_cons_zero, List.set_cons_succ]))
    refine wpAnyH_ready (rs := [12]) (by kernel_rfl) (by simp) ?_
    refine AllReadyH.cons (o := ⟨some 17, _, _, _, _, _⟩) rfl (fun K hK => ?_) AllReadyH.nil
    go_simp
    (refine hK.out _ _ ?_ (fun hHeld => ?_))
    · first | exact hHeld | exact trivial
    refine wpAnyH_ready (rs := [13]) (by kernel_rfl) (by simp) ?_
    refine AllReadyH.cons (o := ⟨some 18, _, _, _, _, _⟩) rfl (fun K hK => ?_) AllReadyH.nil
    go_simp
    (refine hK.out _ _ ?_ (fun hHeld => ?_))
    · first | exact hHeld | exact trivial
    ((refine wpAnyH_take (i := 14) (oi := ⟨some 19, _, _, _, _, _⟩) (v := ?_) rfl (by kernel_rfl) (by kernel_rfl) (by kernel_rfl) (fun _ _ _ h => h) (Or.inl ⟨by rfl, ?_⟩) (by assumption) ?_; rotate_left 1; (focus (intro w hSw; (try dsimp only at hSw); go_simp <;> try (first | (with_reducible rfl) | (rw [if_neg (by omega)]) | (rw [if_pos (by omega)])))); try simp only [Act.put, List.setIfInBounds_toArray, List.set_cons_zero, List.set_cons_succ]))
    refine wpAnyH_ready (rs := [15]) (by kernel_rfl) (by simp) ?_
    refine AllReadyH.cons (o := ⟨some 20, _, _, _, _, _⟩) rfl (fun K hK => ?_) AllReadyH.nil
    go_simp
    clear hHeld
    (refine hK.out _ _ ?_ (fun hHeld => ?_))
    · exact trivial
    try simp only [Act.put, List.setIfInBounds_toArray, List.set_cons_zero, List.set_cons_succ]
    refine wpAnyH_ready (rs := [16]) (by kernel_rfl) (by simp) ?_
    refine AllReadyH.cons (o := ⟨some 21, _, _, _, _, _⟩) rfl (fun K hK => ?_) AllReadyH.nil
    go_simp
    refine (concatTT_t _ _ _ 0 0 _ _ _ _ _ (by simp) (cell_sl2 _ _ _ _).1 (cell_sl2 _ _ _ _).2 (by omega) (by omega) (rd_nilT (w.drew.alloc _) _ _) (rd_nilT (w.drew.alloc _) _ _)).mono ?_
    rintro e1 W1 ⟨B', d', rfl, b1, hw⟩
    have hrd := Lib.hid hw.rd
    have d1 : Below w.heap.size w W1 := ((Below.refl _ _).drew.alloc (by simp) _).trans (b1.mono (by simp))
    clear hw b1
    clear hHeld
    (refine hK.out _ _ ?_ (fun hHeld => ?_))
    · exact trivial
    ((refine wpAnyH_take (i := 17) (oi := ⟨some 4, _, _, _, _, _⟩) (v := ?_) rfl (by kernel_rfl) (by kernel_rfl) (by kernel_rfl) (fun _ _ _ h => h) (Or.inl ⟨by rfl, ?_⟩) (by assumption) ?_; rotate_left 1; (focus (intro w hSw; (try dsimp only at hSw); go_simp <;> try (first | (with_reducible rfl) | (rw [if_neg (by omega)]) | (rw [if_pos (by omega)])))); try simp only [Act.put, List.setIfInBounds_toArray, List.set_cons_zero, List.set_cons_succ]))
    refine wpAnyH_done (by kernel_rfl) ?_ _
    go_wp2
    go_ret
    first | exact ⟨_, _, rfl, d1, hrd.out⟩ | exact ⟨_, ⟨_, rfl⟩, d1, by first | exact hrd.out | simpa using hrd.out⟩
  · go_simp
    (refine hK.out _ _ ?_ (fun hHeld => ?_))
    · first | exact hHeld | exact trivial
    refine wpAnyH_ready (rs := [3, 13]) (by kernel_rfl) (by simp) ?_
    refine AllReadyH.cons (o := ⟨some 8, _, _, _, _, _⟩) rfl (fun K hK => ?_) (AllReadyH.cons (o := ⟨some 18, _, _, _, _, _⟩) rfl (fun K hK => ?_) AllReadyH.nil)
    · go_simp
      (refine hK.out _ _ ?_ (fun hHeld => ?_))
      · first | exact hHeld | exact trivial
      ((refine wpAnyH_take (i := 5) (oi := ⟨some 10, _, _, _, _, _⟩) (v := ?_) rfl (by kernel_rfl) (by kernel_rfl) (by kernel_rfl) (fun _ _ _ h => h) (Or.inl ⟨by rfl, ?_⟩) (by assumption) ?_; rotate_left 1; (focus (intro w hSw; (try dsimp only at hSw); go_simp <;> try (first | (with_reducible rfl) | (rw [if_neg (by omega)]) | (rw [if_pos (by omega)])))); try simp only [Act.put, List.setIfInBounds_toArray, List.set_cons_zero, List.set_cons_succ]))
      refine wpAnyH_ready (rs := [13]) (by kernel_rfl) (by simp) ?_
      refine AllReadyH.cons (o := ⟨some 18, _, _, _, _, _⟩) rfl (fun K hK => ?_) AllReadyH.nil
      go_simp
      (refine hK.out _ _ ?_ (fun hHeld => ?_))
      · first | exact hHeld | exact trivial
      ((refine wpAnyH_take (i := 14) (oi := ⟨some 19, _, _, _, _, _⟩) (v := ?_) rfl (by kernel_rfl) (by kernel_rfl) (by kernel_rfl) (fun _ _ _ h => h) (Or.inl ⟨by rfl, ?_⟩) (by assumption) ?_; rotate_left 1; (focus (intro w hSw; (try dsimp only at hSw); go_simp <;> try (first | (with_reducible rfl) | (rw [if_neg (by omega)]) | (rw [if_pos (by omega)])))); try simp only [Act.put, List.setIfInBounds_toArray, List.set_cons_zero, List.set_cons_succ]))
      refine wpAnyH_ready (rs := [15]) (by kernel_rfl) (by simp) ?_
      refine AllReadyH.cons (o := ⟨some 20, _, _, _, _, _⟩) rfl (fun K hK => ?_) AllReadyH.nil
      go_simp
      clear hHeld
      (refine hK.out _ _ ?_ (fun hHeld => ?_))
      · exact trivial
      try simp only [Act.put, List.setIfInBounds_toArray, List.set_cons_zero, List.set_cons_succ]
      refine wpAnyH_ready (rs := [16]) (by kernel_rfl) (by simp) ?_
      refine AllReadyH.cons (o := ⟨some 21, _, _, _, _, _⟩) rfl (fun K hK => ?_) AllReadyH.nil
      go_simp
      refine (concatTT_t _ _ _ 0 0 _ _ _ _ _ (by simp) (cell_sl2 _ _ _ _).1 (cell_sl2 _ _ _ _).2 (by omega) (by omega) (rd_nilT (w.drew.alloc _) _ _) (rd_nilT (w.drew.alloc _) _ _)).mono ?_
      rintro e1 W1 ⟨B', d', rfl, b1, hw⟩
      have hrd := Lib.hid hw.rd
      have d1 : Below w.heap.size w W1 := ((Below.refl _ _).drew.alloc (by simp) _).trans (b1.mono (by simp))
      clear hw b1
      clear hHeld
      (refine hK.out _ _ ?_ (fun hHeld => ?_))
      · exact trivial
      ((refine wpAnyH_take (i := 17) (oi := ⟨some 4, _, _, _, _, _⟩) (v := ?_) rfl (by kernel_rfl) (by kernel_rfl) (by kernel_rfl) (fun _ _ _ h => h) (Or.inl ⟨by rfl, ?_⟩) (by assumption) ?_; rotate_left 1; (focus (intro w hSw; (try dsimp only at hSw); go_simp <;> try (first | (with_reducible rfl) | (rw [if_neg (by omega)]) | (rw [if_pos (by omega)])))); try simp only [Act.put, List.setIfInBounds_toArray, List.set_cons_zero, List.set_cons_succ]))
      refine wpAnyH_done (by kernel_rfl) ?_ _
      go_wp2
      go_ret
      first | exact ⟨_, _, rfl, d1, hrd.out⟩ | exact ⟨_, ⟨_, rfl⟩, d1, by first | exact hrd.out | simpa using hrd.out⟩
    · go_simp
      (refine hK.out _ _ ?_ (fun hHeld => ?_))
      · first | exact hHeld | exact trivial
      ((refine wpAnyH_take (i := 14) (oi := ⟨some 19, _, _, _, _, _⟩) (v := ?_) rfl (by kernel_rfl) (by kernel_rfl) (by kernel_rfl) (fun _ _ _ h => h) (Or.inl ⟨by rfl, ?_⟩) (by assumption) ?_; rotate_left 1; (focus (intro w hSw; (try dsimp only at hSw); go_simp <;> try (first | (with_reducible rfl) | (rw [if_neg (by omega)]) | (rw [if_pos (by omega)])))); try simp only [Act.put, List.setIfInBounds_toArray, List.set_cons_zero, List.set_cons_succ]))
      refine wpAnyH_ready (rs := [3]) (by kernel_rfl) (by simp) ?_
      refine AllReadyH.cons (o := ⟨some 8, _, _, _, _, _⟩) rfl (fun K hK => ?_) AllReadyH.nil
      go_simp
      (refine hK.out _ _ ?_ (fun hHeld => ?_))
      · first | exact hHeld | exact trivial
      ((refine wpAnyH_take (i := 5) (oi := ⟨some 10, _, _, _, _, _⟩) (v := ?_) rfl (by kernel_rfl) (by kernel_rfl) (by kernel_rfl) (fun _ _ _ h => h) (Or.inl ⟨by rfl, ?_⟩) (by assumption) ?_; rotate_left 1; (focus (intro w hSw; (try dsimp only at hSw); go_simp <;> try (first | (with_reducible rfl) | (rw [if_neg (by omega)]) | (rw [if_pos (by omega)])))); try simp only [Act.put, List.setIfInBounds_toArray, List.set_cons_zero, List.set_cons_succ]))
      refine wpAnyH_ready (rs := [15]) (by kernel_rfl) (by simp) ?_
      refine AllReadyH.cons (o := ⟨some 20, _, _, _, _, _⟩) rfl (fun K hK => ?_) AllReadyH.nil
      go_simp
      clear hHeld
      (refine hK.out _ _ ?_ (fun hHeld => ?_))
      · exact trivial
      try simp only [Act.put, List.setIfInBounds_toArray, List.set_cons_zero, List.set_cons_succ]
      refine wpAnyH_ready (rs := [16]) (by kernel_rfl) (by simp) ?_
      refine AllReadyH.cons (o := ⟨some 21, _, _, _, _, _⟩) rfl (fun K hK => ?_) AllReadyH.nil
      go_simp
      refine (concatTT_t _ _ _ 0 0 _ _ _ _ _ (by simp) (cell_sl2 _ _ _ _).1 (cell_sl2 _ _ _ _).2 (by omega) (by omega) (rd_nilT (w.drew.alloc _) _ _) (rd_nilT (w.drew.alloc _) _ _)).mono ?_
      rintro e1 W1 ⟨B', d', rfl, b1, hw⟩
      have hrd := Lib.hid hw.rd
      have d1 : Below w.heap.size w W1 := ((Below.refl _ _).drew.alloc (by simp) _).trans (b1.mono (by simp))
      clear hw b1
      clear hHeld
      (refine hK.out _ _ ?_ (fun hHeld => ?_))
      · exact trivial
      ((refine wpAnyH_take (i := 17) (oi := ⟨some 4, _, _, _, _, _⟩) (v := ?_) rfl (by kernel_rfl) (by kernel_rfl) (by kernel_rfl) (fun _ _ _ h => h) (Or.inl ⟨by rfl, ?_⟩) (by assumption) ?_; rotate_left 1; (focus (intro w hSw; (try dsimp only at hSw); go_simp <;> try (first | (with_reducible rfl) | (rw [if_neg (by omega)]) | (rw [if_pos (by omega)])))); try simp only [Act.put, List.setIfInBounds_toArray, List.set_cons_zero, List.set_cons_succ]))
      refine wpAnyH_done (by kernel_rfl) ?_ _
      go_wp2
      go_ret
      first | exact ⟨_, _, rfl, d1, hrd.out⟩ | exact ⟨_, ⟨_, rfl⟩, d1, by first | exact hrd.out | simpa using hrd.out⟩

end Go.Proofs.YticbnahndidplaaDoor
