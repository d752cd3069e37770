/- Breaches: the level inside, the head, the inflow: of the model. -/
import Derived.Test.YtckhfkgldemcnaaDoorBreV
import Derived.Test.YtckhfkgldemcnaaDoorCLevelAt
import Derived.Test.YtckhfkgldemcnaaDoorCVolumeAt
import Derived.WalkArith
namespace Go.Proofs.YtckhfkgldemcnaaDoor
open Go.RowKit

theorem wf_bd {xs : List Int} (h : ∀ j, j < xs.length → -1000000000 ≤ xs.getD j 0 ∧ xs.getD j 0 ≤ 1000000000) : Wf xs := by
  intro x hx
  obtain ⟨j, hj, rfl⟩ := List.getElem_of_mem hx
  have := h j hj
  rw [List.getD_eq_getElem?_getD, List.getElem?_eq_getElem hj] at this
  exact WalkArith.wf_i64 (by simp at this; omega)
theorem wf_ls {ls vs : List Int} (h : CurveOk ls vs) : Wf ls := wf_bd fun j hj => by have := (h.2.2.1).bd hj; omega
theorem wf_vs {ls vs : List Int} (h : CurveOk ls vs) : Wf vs := wf_bd fun j hj => by have := (h.2.2.2.1).bd hj; omega

theorem laS_t (A0 : Option Addr) (n0 k0 : Nat) (ls : List Int) (A1 : Option Addr) (n1 k1 : Nat) (vs : List Int) (c : Int) (w : World) (hn0 : n0 ≤ 1048576) (hn1 : n1 ≤ 1048576) (ra : Rd w w.heap.size A0 n0 ls) (rb : Rd w w.heap.size A1 n1 vs) (h : CurveOk ls vs) (h0 : 0 ≤ c) (h1 : c ≤ lastN vs) (y : Int) (hy : y = lvAt ls vs c) :
    Calls Tryd.prog 93 #[.agg #[.slice A0 n0 k0, .slice A1 n1 k1], .int .i64 c] w fun e w' => e = .returned (.tuple #[.int .i64 y, .int .i64 0]) ∧ Below w.heap.size w w' := by
  have hl := last_bd h
  obtain ⟨e0, e1⟩ := la_ok (xa0_0 := ls) (xa0_1 := vs) (a1 := c) ⟨h, h0, by omega⟩ h1
  subst hy
  refine (specC_LevelAt A0 n0 k0 ls A1 n1 k1 vs c w hn0 ra (wf_ls h) hn1 rb (wf_vs h) (WalkArith.wf_i64 (by omega))).mono ?_
  rw [e0, e1]
  exact fun _ _ g => g

theorem vaS_t (A0 : Option Addr) (n0 k0 : Nat) (ls : List Int) (A1 : Option Addr) (n1 k1 : Nat) (vs : List Int) (y : Int) (w : World) (hn0 : n0 ≤ 1048576) (hn1 : n1 ≤ 1048576) (ra : Rd w w.heap.size A0 n0 ls) (rb : Rd w w.heap.size A1 n1 vs) (h : CurveOk ls vs) (hy : onC ls y) (v : Int) (hv : v = vAt ls vs y) :
    Calls Tryd.prog 85 #[.agg #[.slice A0 n0 k0, .slice A1 n1 k1], .int .i64 y] w fun e w' => e = .returned (.tuple #[.int .i64 v, .int .i64 0]) ∧ Below w.heap.size w w' := by
  have b1 := (h.2.2.1).bd (j := 0) (by have := h.1.1; omega)
  have b2 := (h.2.2.1).bd (j := ls.length - 1) (by have := h.1.1; omega)
  have e0 : r0_VolumeAt ls vs y = vAt ls vs y := if_pos ⟨h, hy⟩
  have e1 : r1_VolumeAt ls vs y = 0 := ccode_ok h hy
  subst hv
  refine (specC_VolumeAt A0 n0 k0 ls A1 n1 k1 vs y w hn0 ra (wf_ls h) hn1 rb (wf_vs h) (WalkArith.wf_i64 (by have := hy.1; have := hy.2; omega))).mono ?_
  rw [e0, e1]
  exact fun _ _ g => g

theorem maxS_t (a b : Int) (w : World) (c : Int) (e : c = max a b) : Calls Tryd.prog 80 #[.int .i64 a, .int .i64 b] w fun e w' => e = .returned (.int .i64 c) ∧ w = w' := by
  by_cases h : a > b
  · obtain rfl : c = a := by omega
    clear e
    go_enter Tryd.func80, Tryd.ntmps80
    go_wp2
    go_ret
    exact ⟨rfl, rfl⟩
  · obtain rfl : c = b := by omega
    clear e
    go_enter Tryd.func80, Tryd.ntmps80
    go_wp2
    go_ret
    exact ⟨rfl, rfl⟩

theorem minS_t (a b : Int) (w : World) (c : Int) (e : c = min a b) : Calls Tryd.prog 84 #[.int .i64 a, .int .i64 b] w fun e w' => e = .returned (.int .i64 c) ∧ w = w' := by
  by_cases h : a < b
  · obtain rfl : c = a := by omega
    clear e
    go_enter Tryd.func84, Tryd.ntmps84
    go_wp2
    go_ret
    exact ⟨rfl, rfl⟩
  · obtain rfl : c = b := by omega
    clear e
    go_enter Tryd.func84, Tryd.ntmps84
    go_wp2
    go_ret
    exact ⟨rfl, rfl⟩

set_option maxHeartbeats 1600000 in
theorem insS_t (q : Nat) (A0 : Option Addr) (n0 k0 : Nat) (ls : List Int) (A1 : Option Addr) (n1 k1 : Nat) (vs : List Int) (a b c : Int) (w : World) (hq : q < w.heap.size) (hat : CurveAt w q A0 n0 k0 A1 n1 k1) (hn0 : n0 ≤ 1048576) (hn1 : n1 ≤ 1048576) (ra : Rd w w.heap.size A0 n0 ls) (rb : Rd w w.heap.size A1 n1 vs) (h : CurveOk ls vs) (h0 : 0 ≤ c) (h1 : c ≤ lastN vs) (y : Int) (hy : y = lvAt ls vs c) :
    Calls Tryd.prog 63 #[.pointer (some ⟨q, 0, none⟩), .agg #[.int .i64 a, .int .i64 b, .int .i64 c]] w fun e w' => e = .returned (.int .i64 y) ∧ Below w.heap.size w w' := by
  have RA := Lib.hid ra
  have RB := Lib.hid rb
  clear ra rb
  obtain ⟨y0, y1⟩ := hat
  have HC := Lib.hid h
  have HY := Lib.hid hy
  clear h hy
  go_enter Tryd.func63, Tryd.ntmps63
  go_wp2_with fail
  refine wp_region_held_drew (S := fun w' => w'.cell? ⟨w.heap.size, 0, none⟩ = some (.int .i64 a) ∧ w'.cell? ⟨w.heap.size, 1, none⟩ = some (.int .i64 b) ∧ w'.cell? ⟨w.heap.size, 2, none⟩ = some (.int .i64 c) ∧ w'.cell? ⟨q, 0, none⟩ = some (.slice A0 n0 k0) ∧ w'.cell? ⟨q, 1, none⟩ = some (.slice A1 n1 k1)) (by kernel_rfl) ⟨by first | (simp; done) | go_simp, by first | (simp; done) | go_simp, by first | (simp; done) | go_simp, by first | (simp; done) | go_simp, by first | (simp; done) | go_simp⟩ (fun hHeld => ?_)
  ((refine wpAnyH_take (i := 0) (oi := ⟨some 8, _, _, _, _, _⟩) (v := ?_) rfl (by kernel_rfl) (by kernel_rfl) (by kernel_rfl) (fun _ _ _ h => h) (Or.inl ⟨by rfl, ?_⟩) (by assumption) ?_; rotate_left 1; (focus (intro w hSw; (try dsimp only at hSw); go_simp <;> try (first | (with_reducible rfl) | (rw [if_neg (by omega)]) | (rw [if_pos (by omega)])))); try simp only [Act.put, List.setIfInBounds_toArray, List.set_cons_zero, List.set_cons_succ]); (refine wpAnyH_take (i := 1) (oi := ⟨some 9, _, _, _, _, _⟩) (v := ?_) rfl (by kernel_rfl) (by kernel_rfl) (by kernel_rfl) (fun _ _ _ h => h) (Or.inl ⟨by rfl, ?_⟩) (by assumption) ?_; rotate_left 1; (focus (intro w hSw; (try dsimp only at hSw); go_simp <;> try (first | (with_reducible rfl) | (rw [if_neg (by omega)]) | (rw [if_pos (by omega)])))); try simp only [Act.put, List.setIfInBounds_toArray, List.set_cons_zero, List.set_cons_succ]); (refine wpAnyH_take (i := 2) (oi := ⟨some 10, _, _, _, _, _⟩) (v := ?_) rfl (by kernel_rfl) (by kernel_rfl) (by kernel_rfl) (fun _ _ _ h => h) (Or.inl ⟨by rfl, ?_⟩) (by assumption) ?_; rotate_left 1; (focus (intro w hSw; (try dsimp only at hSw); go_simp <;> try (first | (with_reducible rfl) | (rw [if_neg (by omega)]) | (rw [if_pos (by omega)])))); try simp only [Act.put, List.setIfInBounds_toArray, List.set_cons_zero, List.set_cons_succ]); (refine wpAnyH_take (i := 3) (oi := ⟨some 11, _, _, _, _, _⟩) (v := ?_) rfl (by kernel_rfl) (by kernel_rfl) (by kernel_rfl) (fun _ _ _ h => h) (Or.inl ⟨by rfl, ?_⟩) (by assumption) ?_; rotate_left 1; (focus (intro w hSw; (try dsimp only at hSw); go_simp <;> try (first | (with_reducible rfl) | (rw [if_neg (by omega)]) | (rw [if_pos (by omega)])))); try simp only [Act.put, List.setIfInBounds_toArray, List.set_cons_zero, List.set_cons_succ]); (refine wpAnyH_take (i := 4) (oi := ⟨some 12, _, _, _, _, _⟩) (v := ?_) rfl (by kernel_rfl) (by kernel_rfl) (by kernel_rfl) (fun _ _ _ h => h) (Or.inl ⟨by rfl, ?_⟩) (by assumption) ?_; rotate_left 1; (focus (intro w hSw; (try dsimp only at hSw); go_simp <;> try (first | (with_reducible rfl) | (rw [if_neg (by omega)]) | (rw [if_pos (by omega)])))); try simp only [Act.put, List.setIfInBounds_toArray, List.set_cons_zero, List.set_cons_succ]))
  (refine wpAnyH_ready (rs := [5]) (by kernel_rfl) (by simp) ?_; refine AllReadyH.cons rfl (fun K hK => ?_) AllReadyH.nil; go_simp)
  refine (laS_t A0 n0 k0 ls A1 n1 k1 vs c _ hn0 hn1 ((RA.out.below (by repeat (first | assumption | exact Below.refl _ _ | (refine Below.setCell ?_ (by first | omega | (simp; done) | (simp; omega)) _) | apply below_drewN | apply Below.drew | (refine Below.alloc ?_ (by first | omega | (simp; done) | (simp; omega)) _)))).mono (by first | omega | (simp; done) | (simp; omega))) ((RB.out.below (by repeat (first | assumption | exact Below.refl _ _ | (refine Below.setCell ?_ (by first | omega | (simp; done) | (simp; omega)) _) | apply below_drewN | apply Below.drew | (refine Below.alloc ?_ (by first | omega | (simp; done) | (simp; omega)) _)))).mono (by first | omega | (simp; done) | (simp; omega))) HC.out h0 h1 y HY.out).mono ?_
  rintro e0v V0 ⟨rfl, B0⟩
  have q0_0 := (B0.cell (p := ⟨w.heap.size, 0, none⟩) (by first | omega | (simp; done) | (simp; omega))).trans hHeld.1
  have q0_1 := (B0.cell (p := ⟨w.heap.size, 1, none⟩) (by first | omega | (simp; done) | (simp; omega))).trans hHeld.2.1
  have q0_2 := (B0.cell (p := ⟨w.heap.size, 2, none⟩) (by first | omega | (simp; done) | (simp; omega))).trans hHeld.2.2.1
  have q0_3 := (B0.cell (p := ⟨q, 0, none⟩) (by first | omega | (simp; done) | (simp; omega))).trans hHeld.2.2.2.1
  have q0_4 := (B0.cell (p := ⟨q, 1, none⟩) (by first | omega | (simp; done) | (simp; omega))).trans hHeld.2.2.2.2
  have G0 : w.heap.size < V0.heap.size := (by have := B0.size; (try simp at this); omega)
  have D0 : Below w.heap.size w V0 := (by repeat (first | assumption | exact Below.refl _ _ | (refine Below.trans ?_ (B0.mono (by first | omega | (simp; done) | (simp; omega)))) | (refine Below.setCell ?_ (by first | omega | (simp; done) | (simp; omega)) _) | apply below_drewN | apply Below.drew | (refine Below.alloc ?_ (by first | omega | (simp; done) | (simp; omega)) _)))
  clear hHeld
  (refine hK.out _ _ ?_ (fun hHeld => ?_))
  · exact ⟨q0_0, q0_1, q0_2, q0_3, q0_4⟩
  ((refine wpAnyH_take (i := 6) (oi := ⟨some 7, _, _, _, _, _⟩) (v := ?_) rfl (by kernel_rfl) (by kernel_rfl) (by kernel_rfl) (fun _ _ _ h => h) (Or.inl ⟨by rfl, ?_⟩) (by assumption) ?_; rotate_left 1; (focus (intro w hSw; (try dsimp only at hSw); go_simp <;> try (first | (with_reducible rfl) | (rw [if_neg (by omega)]) | (rw [if_pos (by omega)])))); try simp only [Act.put, List.setIfInBounds_toArray, List.set_cons_zero, List.set_cons_succ]); (refine wpAnyH_take (i := 7) (oi := ⟨some 14, _, _, _, _, _⟩) (v := ?_) rfl (by kernel_rfl) (by kernel_rfl) (by kernel_rfl) (fun _ _ _ h => h) (Or.inl ⟨by rfl, ?_⟩) (by assumption) ?_; rotate_left 1; (focus (intro w hSw; (try dsimp only at hSw); go_simp <;> try (first | (with_reducible rfl) | (rw [if_neg (by omega)]) | (rw [if_pos (by omega)])))); try simp only [Act.put, List.setIfInBounds_toArray, List.set_cons_zero, List.set_cons_succ]); (refine wpAnyH_take (i := 8) (oi := ⟨some 15, _, _, _, _, _⟩) (v := ?_) rfl (by kernel_rfl) (by kernel_rfl) (by kernel_rfl) (fun _ _ _ h => h) (Or.inl ⟨by rfl, ?_⟩) (by assumption) ?_; rotate_left 1; (focus (intro w hSw; (try dsimp only at hSw); go_simp <;> try (first | (with_reducible rfl) | (rw [if_neg (by omega)]) | (rw [if_pos (by omega)])))); try simp only [Act.put, List.setIfInBounds_toArray, List.set_cons_zero, List.set_cons_succ]); (refine wpAnyH_take (i := 9) (oi := ⟨some 5, _, _, _, _, _⟩) (v := ?_) rfl (by kernel_rfl) (by kernel_rfl) (by kernel_rfl) (fun _ _ _ h => h) (Or.inl ⟨by rfl, ?_⟩) (by assumption) ?_; rotate_left 1; (focus (intro w hSw; (try dsimp only at hSw); go_simp <;> try (first | (with_reducible rfl) | (rw [if_neg (by omega)]) | (rw [if_pos (by omega)])))); try simp only [Act.put, List.setIfInBounds_toArray, List.set_cons_zero, List.set_cons_succ]); (refine wpAnyH_take (i := 10) (oi := ⟨some 6, _, _, _, _, _⟩) (v := ?_) rfl (by kernel_rfl) (by kernel_rfl) (by kernel_rfl) (fun _ _ _ h => h) (Or.inl ⟨by rfl, ?_⟩) (by assumption) ?_; rotate_left 1; (focus (intro w hSw; (try dsimp only at hSw); go_simp <;> try (first | (with_reducible rfl) | (rw [if_neg (by omega)]) | (rw [if_pos (by omega)])))); try simp only [Act.put, List.setIfInBounds_toArray, List.set_cons_zero, List.set_cons_succ]))
  refine wpAnyH_done (by kernel_rfl) ?_ _
  go_wp2
  go_ret
  exact ⟨rfl, D0⟩

set_option maxHeartbeats 1600000 in
theorem headS_t (q : Nat) (A0 : Option Addr) (n0 k0 : Nat) (ls : List Int) (A1 : Option Addr) (n1 k1 : Nat) (vs : List Int) (a b c y : Int) (w : World) (hq : q < w.heap.size) (hat : CurveAt w q A0 n0 k0 A1 n1 k1) (hn0 : n0 ≤ 1048576) (hn1 : n1 ≤ 1048576) (ra : Rd w w.heap.size A0 n0 ls) (rb : Rd w w.heap.size A1 n1 vs) (h : brOk ls vs a b c) (hy : levOk y) (hd : Int) (hh : hd = headN ls vs b c y) :
    Calls Tryd.prog 47 #[.pointer (some ⟨q, 0, none⟩), .agg #[.int .i64 a, .int .i64 b, .int .i64 c], .int .i64 y] w fun e w' => e = .returned (.int .i64 hd) ∧ Below w.heap.size w w' := by
  have RA := Lib.hid ra
  have RB := Lib.hid rb
  clear ra rb
  obtain ⟨y0, y1⟩ := hat
  have HC := Lib.hid h.1
  have h0 := h.2.1.2.2.1
  have h1 := h.2.2
  have bl := lvAt_bd h
  obtain ⟨lv, hlv⟩ : ∃ l, l = lvAt ls vs c := ⟨_, rfl⟩
  rw [← hlv] at bl
  obtain ⟨m, hm⟩ : ∃ l, l = max b lv := ⟨_, rfl⟩
  have HL := Lib.hid hlv
  have HM := Lib.hid hm
  have HH := Lib.hid (show hd = max 0 (y - m) by rw [hh, hm, hlv]; rfl)
  have hb := h.2.1.2.1
  have iw := IntWalk.i64_in (y - m) (by obtain ⟨p1, p2⟩ := hy; obtain ⟨p3, p4⟩ := bl; omega)
  clear h hh hlv hm hy bl hb
  go_enter Tryd.func47, Tryd.ntmps47
  go_wp2_with fail
  refine wp_region_held_drew (S := fun w' => w'.cell? ⟨w.heap.size, 0, none⟩ = some (.int .i64 a) ∧ w'.cell? ⟨w.heap.size, 1, none⟩ = some (.int .i64 b) ∧ w'.cell? ⟨w.heap.size, 2, none⟩ = some (.int .i64 c) ∧ w'.cell? ⟨q, 0, none⟩ = some (.slice A0 n0 k0) ∧ w'.cell? ⟨q, 1, none⟩ = some (.slice A1 n1 k1)) (by kernel_rfl) ⟨by first | (simp; done) | go_simp, by first | (simp; done) | go_simp, by first | (simp; done) | go_simp, by first | (simp; done) | go_simp, by first | (simp; done) | go_simp⟩ (fun hHeld => ?_)
  ((refine wpAnyH_take (i := 0) (oi := ⟨some 7, _, _, _, _, _⟩) (v := ?_) rfl (by kernel_rfl) (by kernel_rfl) (by kernel_rfl) (fun _ _ _ h => h) (Or.inl ⟨by rfl, ?_⟩) (by assumption) ?_; rotate_left 1; (focus (intro w hSw; (try dsimp only at hSw); go_simp <;> try (first | (with_reducible rfl) | (rw [if_neg (by omega)]) | (rw [if_pos (by omega)])))); try simp only [Act.put, List.setIfInBounds_toArray, List.set_cons_zero, List.set_cons_succ]); (refine wpAnyH_take (i := 1) (oi := ⟨some 8, _, _, _, _, _⟩) (v := ?_) rfl (by kernel_rfl) (by kernel_rfl) (by kernel_rfl) (fun _ _ _ h => h) (Or.inl ⟨by rfl, ?_⟩) (by assumption) ?_; rotate_left 1; (focus (intro w hSw; (try dsimp only at hSw); go_simp <;> try (first | (with_reducible rfl) | (rw [if_neg (by omega)]) | (rw [if_pos (by omega)])))); try simp only [Act.put, List.setIfInBounds_toArray, List.set_cons_zero, List.set_cons_succ]); (refine wpAnyH_take (i := 2) (oi := ⟨some 9, _, _, _, _, _⟩) (v := ?_) rfl (by kernel_rfl) (by kernel_rfl) (by kernel_rfl) (fun _ _ _ h => h) (Or.inl ⟨by rfl, ?_⟩) (by assumption) ?_; rotate_left 1; (focus (intro w hSw; (try dsimp only at hSw); go_simp <;> try (first | (with_reducible rfl) | (rw [if_neg (by omega)]) | (rw [if_pos (by omega)])))); try simp only [Act.put, List.setIfInBounds_toArray, List.set_cons_zero, List.set_cons_succ]); (refine wpAnyH_take (i := 3) (oi := ⟨some 10, _, _, _, _, _⟩) (v := ?_) rfl (by kernel_rfl) (by kernel_rfl) (by kernel_rfl) (fun _ _ _ h => h) (Or.inl ⟨by rfl, ?_⟩) (by assumption) ?_; rotate_left 1; (focus (intro w hSw; (try dsimp only at hSw); go_simp <;> try (first | (with_reducible rfl) | (rw [if_neg (by omega)]) | (rw [if_pos (by omega)])))); try simp only [Act.put, List.setIfInBounds_toArray, List.set_cons_zero, List.set_cons_succ]); (refine wpAnyH_take (i := 4) (oi := ⟨some 11, _, _, _, _, _⟩) (v := ?_) rfl (by kernel_rfl) (by kernel_rfl) (by kernel_rfl) (fun _ _ _ h => h) (Or.inl ⟨by rfl, ?_⟩) (by assumption) ?_; rotate_left 1; (focus (intro w hSw; (try dsimp only at hSw); go_simp <;> try (first | (with_reducible rfl) | (rw [if_neg (by omega)]) | (rw [if_pos (by omega)])))); try simp only [Act.put, List.setIfInBounds_toArray, List.set_cons_zero, List.set_cons_succ]))
  (refine wpAnyH_ready (rs := [5]) (by kernel_rfl) (by simp) ?_; refine AllReadyH.cons rfl (fun K hK => ?_) AllReadyH.nil; go_simp)
  refine (insS_t q A0 n0 k0 ls A1 n1 k1 vs a b c _ (by first | omega | (simp; done) | (simp; omega)) ⟨hHeld.2.2.2.1, hHeld.2.2.2.2⟩ hn0 hn1 ((RA.out.below (by repeat (first | assumption | exact Below.refl _ _ | (refine Below.setCell ?_ (by first | omega | (simp; done) | (simp; omega)) _) | apply below_drewN | apply Below.drew | (refine Below.alloc ?_ (by first | omega | (simp; done) | (simp; omega)) _)))).mono (by first | omega | (simp; done) | (simp; omega))) ((RB.out.below (by repeat (first | assumption | exact Below.refl _ _ | (refine Below.setCell ?_ (by first | omega | (simp; done) | (simp; omega)) _) | apply below_drewN | apply Below.drew | (refine Below.alloc ?_ (by first | omega | (simp; done) | (simp; omega)) _)))).mono (by first | omega | (simp; done) | (simp; omega))) HC.out h0 h1 lv HL.out).mono ?_
  rintro e0v V0 ⟨rfl, B0⟩
  have q0_0 := (B0.cell (p := ⟨w.heap.size, 0, none⟩) (by first | omega | (simp; done) | (simp; omega))).trans hHeld.1
  have q0_1 := (B0.cell (p := ⟨w.heap.size, 1, none⟩) (by first | omega | (simp; done) | (simp; omega))).trans hHeld.2.1
  have q0_2 := (B0.cell (p := ⟨w.heap.size, 2, none⟩) (by first | omega | (simp; done) | (simp; omega))).trans hHeld.2.2.1
  have q0_3 := (B0.cell (p := ⟨q, 0, none⟩) (by first | omega | (simp; done) | (simp; omega))).trans hHeld.2.2.2.1
  have q0_4 := (B0.cell (p := ⟨q, 1, none⟩) (by first | omega | (simp; done) | (simp; omega))).trans hHeld.2.2.2.2
  have G0 : w.heap.size < V0.heap.size := (by have := B0.size; (try simp at this); omega)
  have D0 : Below w.heap.size w V0 := (by repeat (first | assumption | exact Below.refl _ _ | (refine Below.trans ?_ (B0.mono (by first | omega | (simp; done) | (simp; omega)))) | (refine Below.setCell ?_ (by first | omega | (simp; done) | (simp; omega)) _) | apply below_drewN | apply Below.drew | (refine Below.alloc ?_ (by first | omega | (simp; done) | (simp; omega)) _)))
  clear hHeld
  (refine hK.out _ _ ?_ (fun hHeld => ?_))
  · exact ⟨q0_0, q0_1, q0_2, q0_3, q0_4⟩
  (refine wpAnyH_ready (rs := [6]) (by kernel_rfl) (by simp) ?_; refine AllReadyH.cons rfl (fun K hK => ?_) AllReadyH.nil; go_simp)
  refine (maxS_t b lv _ m HM.out).mono ?_
  rintro e1v V1 ⟨rfl, rfl⟩
  have q1 := hHeld
  clear hHeld
  (refine hK.out _ _ ?_ (fun hHeld => ?_))
  · exact q1
  ((refine wpAnyH_take (i := 7) (oi := ⟨some 14, _, _, _, _, _⟩) (v := ?_) rfl (by kernel_rfl) (by kernel_rfl) (by kernel_rfl) (fun _ _ _ h => h) (Or.inl ⟨by rfl, ?_⟩) (by assumption) ?_; rotate_left 1; (focus (intro w hSw; (try dsimp only at hSw); go_simp <;> try (first | (with_reducible rfl) | (rw [if_neg (by omega)]) | (rw [if_pos (by omega)])))); try simp only [Act.put, List.setIfInBounds_toArray, List.set_cons_zero, List.set_cons_succ]))
  (refine wpAnyH_ready (rs := [8]) (by kernel_rfl) (by simp) ?_; refine AllReadyH.cons rfl (fun K hK => ?_) AllReadyH.nil; go_simp)
  refine (maxS_t 0 (y - m) _ hd HH.out).mono ?_
  rintro e2v V2 ⟨rfl, rfl⟩
  have q2 := hHeld
  clear hHeld
  (refine hK.out _ _ ?_ (fun hHeld => ?_))
  · exact q2
  ((refine wpAnyH_take (i := 9) (oi := ⟨some 6, _, _, _, _, _⟩) (v := ?_) rfl (by kernel_rfl) (by kernel_rfl) (by kernel_rfl) (fun _ _ _ h => h) (Or.inl ⟨by rfl, ?_⟩) (by assumption) ?_; rotate_left 1; (focus (intro w hSw; (try dsimp only at hSw); go_simp <;> try (first | (with_reducible rfl) | (rw [if_neg (by omega)]) | (rw [if_pos (by omega)])))); try simp only [Act.put, List.setIfInBounds_toArray, List.set_cons_zero, List.set_cons_succ]))
  refine wpAnyH_done (by kernel_rfl) ?_ _
  go_wp2
  go_ret
  exact ⟨rfl, (by repeat (first | assumption | exact Below.refl _ _ | (refine Below.trans ?_ (D0.mono (by first | omega | (simp; done) | (simp; omega)))) | (refine Below.setCell ?_ (by first | omega | (simp; done) | (simp; omega)) _) | apply below_drewN | apply Below.drew | (refine Below.alloc ?_ (by first | omega | (simp; done) | (simp; omega)) _)))⟩

set_option maxRecDepth 100000 in
set_option maxHeartbeats 3200000 in
theorem inflS_t (q : Nat) (A0 : Option Addr) (n0 k0 : Nat) (ls : List Int) (A1 : Option Addr) (n1 k1 : Nat) (vs : List Int) (a b c y : Int) (w : World) (hq : q < w.heap.size) (hat : CurveAt w q A0 n0 k0 A1 n1 k1) (hn0 : n0 ≤ 1048576) (hn1 : n1 ≤ 1048576) (ra : Rd w w.heap.size A0 n0 ls) (rb : Rd w w.heap.size A1 n1 vs) (h : brOk ls vs a b c) (hy : levOk y) (r : Int) (hr : r = inflN ls vs a b c y) :
    Calls Tryd.prog 51 #[.pointer (some ⟨q, 0, none⟩), .agg #[.int .i64 a, .int .i64 b, .int .i64 c], .int .i64 y] w fun e w' => e = .returned (.int .i64 r) ∧ Below w.heap.size w w' := by
  have RA := Lib.hid ra
  have RB := Lib.hid rb
  clear ra rb
  have HAT := Lib.hid hat
  obtain ⟨y0, y1⟩ := hat
  obtain ⟨hd, hh⟩ : ∃ l, l = headN ls vs b c y := ⟨_, rfl⟩
  have HD := Lib.hid hh
  have HB := Lib.hid h
  have HY := Lib.hid hy
  by_cases hz : hd = 0
  · obtain rfl : r = 0 := by rw [hr]; exact if_pos (by rw [← hh]; exact hz)
    subst hz
    clear h hy hr hh
    go_enter Tryd.func51, Tryd.ntmps51
    go_wp2_with (go_at_call 47; refine (headS_t q A0 n0 k0 ls A1 n1 k1 vs a b c y _ (by first | omega | (simp; done) | (simp; omega)) (HAT.out.below (B := w.heap.size) (by repeat (first | assumption | exact Below.refl _ _ | (refine Below.setCell ?_ (by first | omega | (simp; done) | (simp; omega)) _) | apply below_drewN | apply Below.drew | (refine Below.alloc ?_ (by first | omega | (simp; done) | (simp; omega)) _))) hq) hn0 hn1 ((RA.out.below (by repeat (first | assumption | exact Below.refl _ _ | (refine Below.setCell ?_ (by first | omega | (simp; done) | (simp; omega)) _) | apply below_drewN | apply Below.drew | (refine Below.alloc ?_ (by first | omega | (simp; done) | (simp; omega)) _)))).mono (by first | omega | (simp; done) | (simp; omega))) ((RB.out.below (by repeat (first | assumption | exact Below.refl _ _ | (refine Below.setCell ?_ (by first | omega | (simp; done) | (simp; omega)) _) | apply below_drewN | apply Below.drew | (refine Below.alloc ?_ (by first | omega | (simp; done) | (simp; omega)) _)))).mono (by first | omega | (simp; done) | (simp; omega))) HB.out HY.out 0 HD.out).mono ?_; rintro e1 W1 ⟨rfl, b1⟩; have d1 : Below w.heap.size w W1 := (by repeat (first | assumption | exact Below.refl _ _ | (refine Below.trans ?_ (b1.mono (by first | omega | (simp; done) | (simp; omega)))) | (refine Below.setCell ?_ (by first | omega | (simp; done) | (simp; omega)) _) | apply below_drewN | apply Below.drew | (refine Below.alloc ?_ (by first | omega | (simp; done) | (simp; omega)) _))))
    go_ret
    exact ⟨rfl, d1⟩
  · have hh0 : headN ls vs b c y ≠ 0 := by rw [← hh]; exact hz
    obtain ⟨on, _⟩ := most_on h hh0
    obtain ⟨mb1, mb2, mb3⟩ := most_bd h hh0
    obtain ⟨hb1, hb2⟩ := headN_bd h hy
    rw [← hh] at hb1 hb2
    have hm10 := mul10 h.2.1.1.1 h.2.1.1.2 hb1 hb2
    obtain ⟨l9, hl9⟩ : ∃ l, l = lastN ls := ⟨_, rfl⟩
    obtain ⟨mn, hmn⟩ : ∃ l, l = min y l9 := ⟨_, rfl⟩
    rw [← hl9, ← hmn] at on
    obtain ⟨mo, hmo⟩ : ∃ l, l = vAt ls vs mn := ⟨_, rfl⟩
    have emo : mostN ls vs y = mo := by unfold mostN; rw [hmo, hmn, hl9]
    rw [emo] at mb1 mb2 mb3
    obtain ⟨pr, hpr⟩ : ∃ l, l = 10 * a * hd := ⟨_, rfl⟩
    rw [← hpr] at hm10
    obtain ⟨mi, hmi⟩ : ∃ l, l = min pr (mo - c) := ⟨_, rfl⟩
    have er : r = mi := by rw [hr, hmi, hpr, hh, ← emo]; exact if_neg hh0
    subst er
    have ha0 := h.2.1.1
    have hc0 := h.2.1.2.2
    have HON := Lib.hid on
    have HMO := Lib.hid hmo
    have HMN := Lib.hid hmn
    have HMI := Lib.hid hmi
    have HMX := Lib.hid (show r = max 0 r by omega)
    have w1 := IntWalk.i64_in (10 * a) (by omega)
    have w3 := IntWalk.i64_in (mo - c) (by omega)
    have HWP := Lib.hid (show wrap64 pr = pr from IntWalk.wrap64_in pr (by omega))
    have hl0 := RA.out.1
    have hnn : 0 < n0 := by have := h.1.1; omega
    obtain ⟨vb, vo, rfl, hvb, hcv⟩ := RA.out.2 hnn
    have y9 : w.cell? ⟨vb, vo + (n0 - 1), none⟩ = some (.int .i64 l9) := by rw [hcv (n0 - 1) (by omega), hl9]; unfold lastN; rw [hl0]
    have i1 : n0 - 1 < n0 := by omega
    have i2 : (n0 : Int) - 1 < (n0 : Int) := by omega
    have i3 : (0 : Int) < (n0 : Int) := by omega
    have i4 := IntWalk.i64_in ((n0 : Int) - 1) (by omega)
    have i6 : (1 : Int) ≤ (n0 : Int) := by omega
    have i5 : ((n0 : Int) - 1).toNat = n0 - 1 := by omega
    have HPR := Lib.hid hpr.symm
    have HCC := Lib.hid h.1
    clear h hy hr hh hh0 on hmo hmn hmi hpr emo hl9 hl0 hcv ha0 hc0 hm10
    go_enter Tryd.func51, Tryd.ntmps51
    go_wp2_with (go_at_call 47; refine (headS_t q (some ⟨vb, vo, none⟩) n0 k0 ls A1 n1 k1 vs a b c y _ (by first | omega | (simp; done) | (simp; omega)) (HAT.out.below (B := w.heap.size) (by repeat (first | assumption | exact Below.refl _ _ | (refine Below.setCell ?_ (by first | omega | (simp; done) | (simp; omega)) _) | apply below_drewN | apply Below.drew | (refine Below.alloc ?_ (by first | omega | (simp; done) | (simp; omega)) _))) hq) hn0 hn1 ((RA.out.below (by repeat (first | assumption | exact Below.refl _ _ | (refine Below.setCell ?_ (by first | omega | (simp; done) | (simp; omega)) _) | apply below_drewN | apply Below.drew | (refine Below.alloc ?_ (by first | omega | (simp; done) | (simp; omega)) _)))).mono (by first | omega | (simp; done) | (simp; omega))) ((RB.out.below (by repeat (first | assumption | exact Below.refl _ _ | (refine Below.setCell ?_ (by first | omega | (simp; done) | (simp; omega)) _) | apply below_drewN | apply Below.drew | (refine Below.alloc ?_ (by first | omega | (simp; done) | (simp; omega)) _)))).mono (by first | omega | (simp; done) | (simp; omega))) HB.out HY.out hd HD.out).mono ?_; rintro e1 W1 ⟨rfl, b1⟩; have s1 : w.heap.size < W1.heap.size := (by have := b1.size; (try simp at this); omega); obtain ⟨kx, fx⟩ := bcell b1; have z0 : W1.cell? ⟨w.heap.size, 0, none⟩ = some (.int .i64 a) := (by rw [kx _ _ (by first | omega | (simp; done) | (simp; omega))]; first | (simp; done) | go_simp); have zf0 : W1.frozen? ⟨w.heap.size, 0, none⟩ = false := (by rw [fx _ _ (by first | omega | (simp; done) | (simp; omega))]; first | (simp; done) | go_simp); have z1 : W1.cell? ⟨w.heap.size, 1, none⟩ = some (.int .i64 b) := (by rw [kx _ _ (by first | omega | (simp; done) | (simp; omega))]; first | (simp; done) | go_simp); have zf1 : W1.frozen? ⟨w.heap.size, 1, none⟩ = false := (by rw [fx _ _ (by first | omega | (simp; done) | (simp; omega))]; first | (simp; done) | go_simp); have z2 : W1.cell? ⟨w.heap.size, 2, none⟩ = some (.int .i64 c) := (by rw [kx _ _ (by first | omega | (simp; done) | (simp; omega))]; first | (simp; done) | go_simp); have zf2 : W1.frozen? ⟨w.heap.size, 2, none⟩ = false := (by rw [fx _ _ (by first | omega | (simp; done) | (simp; omega))]; first | (simp; done) | go_simp); clear kx fx; have d1 : Below w.heap.size w W1 := (by repeat (first | assumption | exact Below.refl _ _ | (refine Below.trans ?_ (b1.mono (by first | omega | (simp; done) | (simp; omega)))) | (refine Below.setCell ?_ (by first | omega | (simp; done) | (simp; omega)) _) | apply below_drewN | apply Below.drew | (refine Below.alloc ?_ (by first | omega | (simp; done) | (simp; omega)) _))); have z3 := (d1.cell (p := ⟨q, 0, none⟩) hq).trans y0; have z4 := (d1.cell (p := ⟨q, 1, none⟩) hq).trans y1; have z5 := (d1.cell (p := ⟨vb, vo + (n0 - 1), none⟩) hvb).trans y9; clear b1)
    refine wp_region_held_drew (S := fun w' => w'.cell? ⟨w.heap.size, 0, none⟩ = some (.int .i64 a) ∧ w'.cell? ⟨w.heap.size, 1, none⟩ = some (.int .i64 b) ∧ w'.cell? ⟨w.heap.size, 2, none⟩ = some (.int .i64 c) ∧ w'.cell? ⟨q, 0, none⟩ = some (.slice (some ⟨vb, vo, none⟩) n0 k0) ∧ w'.cell? ⟨q, 1, none⟩ = some (.slice A1 n1 k1) ∧ w'.cell? ⟨vb, vo + (n0 - 1), none⟩ = some (.int .i64 l9)) (by kernel_rfl) ⟨z0, z1, z2, z3, z4, z5⟩ (fun hHeld => ?_)
    ((refine wpAnyH_take (i := 0) (oi := ⟨some 17, _, _, _, _, _⟩) (v := ?_) rfl (by kernel_rfl) (by kernel_rfl) (by kernel_rfl) (fun _ _ _ h => h) (Or.inl ⟨by rfl, ?_⟩) (by assumption) ?_; rotate_left 1; (focus (intro w hSw; (try dsimp only at hSw); go_simp <;> try (first | (with_reducible rfl) | (rw [if_neg (by omega)]) | (rw [if_pos (by omega)])))); try simp only [Act.put, List.setIfInBounds_toArray, List.set_cons_zero, List.set_cons_succ]); (refine wpAnyH_take (i := 1) (oi := ⟨some 18, _, _, _, _, _⟩) (v := ?_) rfl (by kernel_rfl) (by kernel_rfl) (by kernel_rfl) (fun _ _ _ h => h) (Or.inl ⟨by rfl, ?_⟩) (by assumption) ?_; rotate_left 1; (focus (intro w hSw; (try dsimp only at hSw); go_simp <;> try (first | (with_reducible rfl) | (rw [if_neg (by omega)]) | (rw [if_pos (by omega)])))); try simp only [Act.put, List.setIfInBounds_toArray, List.set_cons_zero, List.set_cons_succ]); (refine wpAnyH_take (i := 2) (oi := ⟨some 19, _, _, _, _, _⟩) (v := ?_) rfl (by kernel_rfl) (by kernel_rfl) (by kernel_rfl) (fun _ _ _ h => h) (Or.inl ⟨by rfl, ?_⟩) (by assumption) ?_; rotate_left 1; (focus (intro w hSw; (try dsimp only at hSw); go_simp <;> try (first | (with_reducible rfl) | (rw [if_neg (by omega)]) | (rw [if_pos (by omega)])))); try simp only [Act.put, List.setIfInBounds_toArray, List.set_cons_zero, List.set_cons_succ]); (refine wpAnyH_take (i := 3) (oi := ⟨some 20, _, _, _, _, _⟩) (v := ?_) rfl (by kernel_rfl) (by kernel_rfl) (by kernel_rfl) (fun _ _ _ h => h) (Or.inl ⟨by rfl, ?_⟩) (by assumption) ?_; rotate_left 1; (focus (intro w hSw; (try dsimp only at hSw); go_simp <;> try (first | (with_reducible rfl) | (rw [if_neg (by omega)]) | (rw [if_pos (by omega)])))); try simp only [Act.put, List.setIfInBounds_toArray, List.set_cons_zero, List.set_cons_succ]); (refine wpAnyH_take (i := 4) (oi := ⟨some 21, _, _, _, _, _⟩) (v := ?_) rfl (by kernel_rfl) (by kernel_rfl) (by kernel_rfl) (fun _ _ _ h => h) (Or.inl ⟨by rfl, ?_⟩) (by assumption) ?_; rotate_left 1; (focus (intro w hSw; (try dsimp only at hSw); go_simp <;> try (first | (with_reducible rfl) | (rw [if_neg (by omega)]) | (rw [if_pos (by omega)])))); try simp only [Act.put, List.setIfInBounds_toArray, List.set_cons_zero, List.set_cons_succ]); (refine wpAnyH_take (i := 5) (oi := ⟨some 22, _, _, _, _, _⟩) (v := ?_) rfl (by kernel_rfl) (by kernel_rfl) (by kernel_rfl) (fun _ _ _ h => h) (Or.inl ⟨by rfl, ?_⟩) (by assumption) ?_; rotate_left 1; (focus (intro w hSw; (try dsimp only at hSw); go_simp <;> try (first | (with_reducible rfl) | (rw [if_neg (by omega)]) | (rw [if_pos (by omega)])))); try simp only [Act.put, List.setIfInBounds_toArray, List.set_cons_zero, List.set_cons_succ]); (refine wpAnyH_take (i := 6) (oi := ⟨some 23, _, _, _, _, _⟩) (v := ?_) rfl (by kernel_rfl) (by kernel_rfl) (by kernel_rfl) (fun _ _ _ h => h) (Or.inl ⟨by rfl, ?_⟩) (by assumption) ?_; rotate_left 1; (focus (intro w hSw; (try dsimp only at hSw); go_simp <;> try (first | (with_reducible rfl) | (rw [if_neg (by omega)]) | (rw [if_pos (by omega)])))); try simp only [Act.put, List.setIfInBounds_toArray, List.set_cons_zero, List.set_cons_succ]); (refine wpAnyH_take (i := 7) (oi := ⟨some 24, _, _, _, _, _⟩) (v := ?_) rfl (by kernel_rfl) (by kernel_rfl) (by kernel_rfl) (fun _ _ _ h => h) (Or.inl ⟨by rfl, ?_⟩) (by assumption) ?_; rotate_left 1; (focus (intro w hSw; (try dsimp only at hSw); go_simp <;> try (first | (with_reducible rfl) | (rw [if_neg (by omega)]) | (rw [if_pos (by omega)])))); try simp only [Act.put, List.setIfInBounds_toArray, List.set_cons_zero, List.set_cons_succ]); (refine wpAnyH_take (i := 8) (oi := ⟨some 25, _, _, _, _, _⟩) (v := ?_) rfl (by kernel_rfl) (by kernel_rfl) (by kernel_rfl) (fun _ _ _ h => h) (Or.inl ⟨by rfl, ?_⟩) (by assumption) ?_; rotate_left 1; (focus (intro w hSw; (try dsimp only at hSw); go_simp <;> try (first | (with_reducible rfl) | (rw [if_neg (by omega)]) | (rw [if_pos (by omega)])))); try simp only [Act.put, List.setIfInBounds_toArray, List.set_cons_zero, List.set_cons_succ]))
    (refine wpAnyH_ready (rs := [9]) (by kernel_rfl) (by simp) ?_; refine AllReadyH.cons rfl (fun K hK => ?_) AllReadyH.nil; go_simp)
    (refine hK.out _ _ ?_ (fun hHeld => ?_))
    · first | exact hHeld | exact ⟨z0, z1, z2, z3, z4, z5⟩
    ((refine wpAnyH_take (i := 10) (oi := ⟨some 27, _, _, _, _, _⟩) (v := ?_) rfl (by kernel_rfl) (by kernel_rfl) (by kernel_rfl) (fun _ _ _ h => h) (Or.inl ⟨by rfl, ?_⟩) (by assumption) ?_; rotate_left 1; (focus (intro w hSw; (try dsimp only at hSw); go_simp <;> try (first | (with_reducible rfl) | (rw [if_neg (by omega)]) | (rw [if_pos (by omega)])))); try simp only [Act.put, List.setIfInBounds_toArray, List.set_cons_zero, List.set_cons_succ]); (refine wpAnyH_take (i := 11) (oi := ⟨some 28, _, _, _, _, _⟩) (v := ?_) rfl (by kernel_rfl) (by kernel_rfl) (by kernel_rfl) (fun _ _ _ h => h) (Or.inl ⟨by rfl, ?_⟩) (by assumption) ?_; rotate_left 1; (focus (intro w hSw; (try dsimp only at hSw); go_simp <;> try (first | (with_reducible rfl) | (rw [if_neg (by omega)]) | (rw [if_pos (by omega)])))); try simp only [Act.put, List.setIfInBounds_toArray, List.set_cons_zero, List.set_cons_succ]); (refine wpAnyH_take (i := 12) (oi := ⟨some 29, _, _, _, _, _⟩) (v := ?_) rfl (by kernel_rfl) (by kernel_rfl) (by kernel_rfl) (fun _ _ _ h => h) (Or.inl ⟨by rfl, ?_⟩) (by assumption) ?_; rotate_left 1; (focus (intro w hSw; (try dsimp only at hSw); go_simp <;> try (first | (with_reducible rfl) | (rw [if_neg (by omega)]) | (rw [if_pos (by omega)])))); try simp only [Act.put, List.setIfInBounds_toArray, List.set_cons_zero, List.set_cons_succ]))
    (refine wpAnyH_ready (rs := [13]) (by kernel_rfl) (by simp) ?_; refine AllReadyH.cons rfl (fun K hK => ?_) AllReadyH.nil; go_simp)
    refine (minS_t y l9 _ mn HMN.out).mono ?_
    rintro e0v V0 ⟨rfl, rfl⟩
    have q0 := hHeld
    clear hHeld
    (refine hK.out _ _ ?_ (fun hHeld => ?_))
    · exact q0
    ((refine wpAnyH_take (i := 14) (oi := ⟨some 8, _, _, _, _, _⟩) (v := ?_) rfl (by kernel_rfl) (by kernel_rfl) (by kernel_rfl) (fun _ _ _ h => h) (Or.inl ⟨by rfl, ?_⟩) (by assumption) ?_; rotate_left 1; (focus (intro w hSw; (try dsimp only at hSw); go_simp <;> try (first | (with_reducible rfl) | (rw [if_neg (by omega)]) | (rw [if_pos (by omega)])))); try simp only [Act.put, List.setIfInBounds_toArray, List.set_cons_zero, List.set_cons_succ]))
    refine wpAnyH_done (by kernel_rfl) ?_ _
    go_wp2_with (first | (go_at_call 85; refine (vaS_t (some ⟨vb, vo, none⟩) n0 k0 ls A1 n1 k1 vs mn _ hn0 hn1 ((RA.out.below (by repeat (first | assumption | exact Below.refl _ _ | (refine Below.trans ?_ (d1.mono (by first | omega | (simp; done) | (simp; omega)))) | (refine Below.setCell ?_ (by first | omega | (simp; done) | (simp; omega)) _) | apply below_drewN | apply Below.drew | (refine Below.alloc ?_ (by first | omega | (simp; done) | (simp; omega)) _)))).mono (by first | omega | (simp; done) | (simp; omega))) ((RB.out.below (by repeat (first | assumption | exact Below.refl _ _ | (refine Below.trans ?_ (d1.mono (by first | omega | (simp; done) | (simp; omega)))) | (refine Below.setCell ?_ (by first | omega | (simp; done) | (simp; omega)) _) | apply below_drewN | apply Below.drew | (refine Below.alloc ?_ (by first | omega | (simp; done) | (simp; omega)) _)))).mono (by first | omega | (simp; done) | (simp; omega))) HCC.out HON.out mo HMO.out).mono ?_; rintro e3 W3 ⟨rfl, b3⟩; have s3 : w.heap.size < W3.heap.size := (by have := b3.size; (try simp at this); omega); have x0 := (b3.cell (p := ⟨w.heap.size, 0, none⟩) (by first | omega | (simp; done) | (simp; omega))).trans z0; have x1 := (b3.cell (p := ⟨w.heap.size, 1, none⟩) (by first | omega | (simp; done) | (simp; omega))).trans z1; have x2 := (b3.cell (p := ⟨w.heap.size, 2, none⟩) (by first | omega | (simp; done) | (simp; omega))).trans z2; have d3 : Below w.heap.size w W3 := (by repeat (first | assumption | exact Below.refl _ _ | (refine Below.trans ?_ (b3.mono (by first | omega | (simp; done) | (simp; omega)))) | (refine Below.trans ?_ (d1.mono (by first | omega | (simp; done) | (simp; omega)))) | (refine Below.setCell ?_ (by first | omega | (simp; done) | (simp; omega)) _) | apply below_drewN | apply Below.drew | (refine Below.alloc ?_ (by first | omega | (simp; done) | (simp; omega)) _))); clear b3) | (go_at_call 84; rw [HPR.out, HWP.out]; refine (minS_t pr (mo - c) _ r HMI.out).mono ?_; rintro e4 W4 ⟨rfl, rfl⟩) | (go_at_call 80; refine (maxS_t 0 r _ r HMX.out).mono ?_; rintro e5 W5 ⟨rfl, rfl⟩))
    go_ret
    exact ⟨rfl, (by repeat (first | assumption | exact Below.refl _ _ | (refine Below.trans ?_ (d3.mono (by first | omega | (simp; done) | (simp; omega)))) | (refine Below.setCell ?_ (by first | omega | (simp; done) | (simp; omega)) _) | apply below_drewN | apply Below.drew | (refine Below.alloc ?_ (by first | omega | (simp; done) | (simp; omega)) _)))⟩


end Go.Proofs.YtckhfkgldemcnaaDoor
