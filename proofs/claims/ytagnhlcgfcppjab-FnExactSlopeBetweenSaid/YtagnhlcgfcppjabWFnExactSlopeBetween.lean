import Derived.Test.YtagnhlcgfcppjabFrac
import Derived.Test.YtagnhlcgfcppjabLevelsE
namespace Go.Proofs.Ytagnhlcgfcppjab
open Go.RowKit

set_option maxHeartbeats 400000 in
theorem spec_slope (a b m : Int) (w : World) (v1 : -2000 ≤ a) (v2 : a ≤ 2000) (v3 : -2000 ≤ b) (v4 : b ≤ 2000) (v5 : 1 ≤ m) (v6 : m ≤ 100000) :
    Calls Try.prog 41 #[.int .i64 a, .int .i64 b, .int .i64 m] w fun e w' => e = .returned (.tuple #[.agg #[.int .i64 (fnum (b - a) m), .int .i64 (fden (b - a) m)], .int .i64 0]) ∧ Below w.heap.size w w' := by
  go_enter Try.func41, Try.ntmps41
  go_wp2_with (first | (go_at_call 74; refine (spec_make _ _ _ (by omega) (by omega) (by omega) (by omega)).mono ?_; rintro e x1 ⟨rfl, hb⟩; obtain ⟨hc, hf⟩ := bcell hb; have hz := hb.size; simp at hz) | (go_at_call 67; first | (refine (in_t _ _ _ _ (by omega)).mono ?_; rintro e w' ⟨rfl, rfl⟩) | (refine (in_f _ _ _ _ (by omega)).mono ?_; rintro e w' ⟨rfl, rfl⟩)) | go_in)
  exact bodyPost_ret (v := .tuple #[.agg #[.int .i64 (fnum (b - a) m), .int .i64 (fden (b - a) m)], .int .i64 0]) (by simp [results, Try.results41, go_sem, hc, hz]) rfl ⟨rfl, by
    refine Below.setCell (Below.setCell (Below.trans ?_ (hb.mono (by simp))) (by simp) _) (by simp) _
    exact (by repeat (first | assumption | exact Below.refl _ _ | (refine Below.setCell ?_ (by first | omega | (simp; done) | (simp; omega)) _) | apply below_drewN | apply Below.drew | (refine Below.alloc ?_ (by first | omega | (simp; done) | (simp; omega)) _)))⟩
set_option maxHeartbeats 400000 in
theorem spec_slope_bad (a b m : Int) (w : World) (h : ¬ (-2000 ≤ a ∧ a ≤ 2000 ∧ -2000 ≤ b ∧ b ≤ 2000 ∧ 1 ≤ m ∧ m ≤ 100000)) :
    Calls Try.prog 41 #[.int .i64 a, .int .i64 b, .int .i64 m] w fun e w' => e = .returned (.tuple #[.agg #[.int .i64 0, .int .i64 0], .int .i64 2]) ∧ Below w.heap.size w w' := by
  by_cases ha : -2000 ≤ a ∧ a ≤ 2000
  · by_cases hb : -2000 ≤ b ∧ b ≤ 2000
    · go_enter Try.func41, Try.ntmps41
      go_wp2_with (first | (go_at_call 67; first | (refine (in_t _ _ _ _ (by omega)).mono ?_; rintro e w' ⟨rfl, rfl⟩) | (refine (in_f _ _ _ _ (by omega)).mono ?_; rintro e w' ⟨rfl, rfl⟩)) | go_in)
      exact bodyPost_ret (v := .tuple #[.agg #[.int .i64 0, .int .i64 0], .int .i64 2]) (by simp [results, Try.results41, go_sem]) rfl ⟨rfl, (by repeat (first | assumption | exact Below.refl _ _ | (refine Below.setCell ?_ (by first | omega | (simp; done) | (simp; omega)) _) | apply below_drewN | apply Below.drew | (refine Below.alloc ?_ (by first | omega | (simp; done) | (simp; omega)) _)))⟩
    · go_enter Try.func41, Try.ntmps41
      go_wp2_with (first | (go_at_call 67; first | (refine (in_t _ _ _ _ (by omega)).mono ?_; rintro e w' ⟨rfl, rfl⟩) | (refine (in_f _ _ _ _ (by omega)).mono ?_; rintro e w' ⟨rfl, rfl⟩)) | go_in)
      exact bodyPost_ret (v := .tuple #[.agg #[.int .i64 0, .int .i64 0], .int .i64 2]) (by simp [results, Try.results41, go_sem]) rfl ⟨rfl, (by repeat (first | assumption | exact Below.refl _ _ | (refine Below.setCell ?_ (by first | omega | (simp; done) | (simp; omega)) _) | apply below_drewN | apply Below.drew | (refine Below.alloc ?_ (by first | omega | (simp; done) | (simp; omega)) _)))⟩
  · go_enter Try.func41, Try.ntmps41
    go_wp2_with (first | (go_at_call 67; first | (refine (in_t _ _ _ _ (by omega)).mono ?_; rintro e w' ⟨rfl, rfl⟩) | (refine (in_f _ _ _ _ (by omega)).mono ?_; rintro e w' ⟨rfl, rfl⟩)) | go_in)
    exact bodyPost_ret (v := .tuple #[.agg #[.int .i64 0, .int .i64 0], .int .i64 2]) (by simp [results, Try.results41, go_sem]) rfl ⟨rfl, (by repeat (first | assumption | exact Below.refl _ _ | (refine Below.setCell ?_ (by first | omega | (simp; done) | (simp; omega)) _) | apply below_drewN | apply Below.drew | (refine Below.alloc ?_ (by first | omega | (simp; done) | (simp; omega)) _)))⟩
theorem two_le : 2 ≤ 1048576 := by decide
theorem lv2_t (a b : Int) (w W : World) (k : Nat) (hk : w.heap.size = k) (hW : W = w.alloc (.cells #[.int .i64 a, .int .i64 b] 2)) (v : Bool) (hv : v = true ↔ (-2000 ≤ a ∧ a ≤ 2000) ∧ (-2000 ≤ b ∧ b ≤ 2000)) :
    Calls Try.prog 52 #[.slice (some ⟨k, 0, none⟩) 2 2] W fun e w' => e = .returned (.bool v) ∧ Below k w w' := by
  subst hk
  subst hW
  have hr : Rd (w.alloc (.cells #[.int .i64 a, .int .i64 b] 2)) (w.alloc (.cells #[.int .i64 a, .int .i64 b] 2)).heap.size (some ⟨w.heap.size, 0, none⟩) 2 [a, b] := (rd_two w a b 2).mono (by simp)
  exact (areLevels_any (some ⟨w.heap.size, 0, none⟩) 2 2 [a, b] _ two_le hr v (hv.trans allIn_two.symm)).mono fun _ _ g => ⟨g.1, (((Below.refl w.heap.size w).alloc (Nat.le_refl _) _).trans (g.2.mono (by simp)))⟩

set_option maxRecDepth 20000 in
set_option maxHeartbeats 400000 in
theorem impl_slope (a b m : Int) (w : World) (v1 : -2000 ≤ a) (v2 : a ≤ 2000) (v3 : -2000 ≤ b) (v4 : b ≤ 2000) (v5 : 1 ≤ m) (v6 : m ≤ 100000) :
    Calls Try.prog 42 #[.int .i64 a, .int .i64 b, .int .i64 m] w fun e w' => e = .returned (.tuple #[.agg #[.int .i64 (fnum (b - a) m), .int .i64 (fden (b - a) m)], .int .i64 0]) ∧ Below w.heap.size w w' := by
  go_enter Try.func42, Try.ntmps42
  go_wp2_with (first | (go_at_call 75; refine (impl_lowest _ _ _ (by omega) (by omega) (by omega) (by omega)).mono ?_; rintro e x1 ⟨rfl, hb⟩; obtain ⟨hc, hf⟩ := bcell hb; have hz := hb.size; have y0 : x1.cell? ⟨w.heap.size, 0, none⟩ = _ := (hb.cell (p := ⟨w.heap.size, 0, none⟩) (show w.heap.size < _ from (by first | omega | (simp; done) | (simp; omega)))).trans z0; have yf0 : x1.frozen? ⟨w.heap.size, 0, none⟩ = _ := (hb.frozen (p := ⟨w.heap.size, 0, none⟩) (show w.heap.size < _ from (by first | omega | (simp; done) | (simp; omega)))).trans zf0; have y1 : x1.cell? ⟨w.heap.size, 1, none⟩ = _ := (hb.cell (p := ⟨w.heap.size, 1, none⟩) (show w.heap.size < _ from (by first | omega | (simp; done) | (simp; omega)))).trans z1; have yf1 : x1.frozen? ⟨w.heap.size, 1, none⟩ = _ := (hb.frozen (p := ⟨w.heap.size, 1, none⟩) (show w.heap.size < _ from (by first | omega | (simp; done) | (simp; omega)))).trans zf1) | (go_at_call 52; refine (lv2_t a b (w.alloc (.cells #[.int .i64 0, .int .i64 0] 48)) _ (w.heap.size + 1) (by simp) rfl true ⟨fun _ => ⟨⟨v1, v2⟩, v3, v4⟩, fun _ => rfl⟩).mono ?_; rintro e9 x9 ⟨rfl, b9⟩; have d9 := b9.size; (try simp at d9); obtain ⟨k9, f9⟩ := bcell (show Below (w.alloc (.cells #[.int .i64 0, .int .i64 0] 48)).heap.size _ x9 from b9.mono (by simp)); have z0 : x9.cell? ⟨w.heap.size, 0, none⟩ = some (.int .i64 0) := (by rw [k9 _ _ (by first | omega | (simp; done) | (simp; omega))]; first | (simp; done) | go_simp); have zf0 : x9.frozen? ⟨w.heap.size, 0, none⟩ = false := (by rw [f9 _ _ (by first | omega | (simp; done) | (simp; omega))]; first | (simp; done) | go_simp); have z1 : x9.cell? ⟨w.heap.size, 1, none⟩ = some (.int .i64 0) := (by rw [k9 _ _ (by first | omega | (simp; done) | (simp; omega))]; first | (simp; done) | go_simp); have zf1 : x9.frozen? ⟨w.heap.size, 1, none⟩ = false := (by rw [f9 _ _ (by first | omega | (simp; done) | (simp; omega))]; first | (simp; done) | go_simp)) | (go_at_call 51; first | (refine (within_t _ _ _ _ (by omega)).mono ?_; rintro e w' ⟨rfl, rfl⟩) | (refine (within_f _ _ _ _ (by omega)).mono ?_; rintro e w' ⟨rfl, rfl⟩)) | go_in)
  exact bodyPost_ret (v := .tuple #[.agg #[.int .i64 (fnum (b - a) m), .int .i64 (fden (b - a) m)], .int .i64 0]) (by simp [results, Try.results42, go_sem, y0, y1]) rfl ⟨rfl, (by repeat (first | assumption | exact Below.refl _ _ | (refine Below.trans ?_ (hb.mono (by first | omega | (simp; done) | (simp; omega)))) | (refine Below.trans ?_ (b9.mono (by first | omega | (simp; done) | (simp; omega)))) | (refine Below.setCell ?_ (by first | omega | (simp; done) | (simp; omega)) _) | apply below_drewN | apply Below.drew | (refine Below.alloc ?_ (by first | omega | (simp; done) | (simp; omega)) _)))⟩
set_option maxRecDepth 20000 in
set_option maxHeartbeats 400000 in
theorem impl_slope_bad (a b m : Int) (w : World) (h : ¬ (-2000 ≤ a ∧ a ≤ 2000 ∧ -2000 ≤ b ∧ b ≤ 2000 ∧ 1 ≤ m ∧ m ≤ 100000)) :
    Calls Try.prog 42 #[.int .i64 a, .int .i64 b, .int .i64 m] w fun e w' => e = .returned (.tuple #[.agg #[.int .i64 0, .int .i64 0], .int .i64 2]) ∧ Below w.heap.size w w' := by
  by_cases ha : -2000 ≤ a ∧ a ≤ 2000
  · by_cases hb : -2000 ≤ b ∧ b ≤ 2000
    · go_enter Try.func42, Try.ntmps42
      go_wp2_with (first | (go_at_call 52; refine (lv2_t a b (w.alloc (.cells #[.int .i64 0, .int .i64 0] 48)) _ (w.heap.size + 1) (by simp) rfl true ⟨fun _ => ⟨ha, hb⟩, fun _ => rfl⟩).mono ?_; rintro e9 x9 ⟨rfl, b9⟩; have d9 := b9.size; (try simp at d9); obtain ⟨k9, f9⟩ := bcell (show Below (w.alloc (.cells #[.int .i64 0, .int .i64 0] 48)).heap.size _ x9 from b9.mono (by simp)); have z0 : x9.cell? ⟨w.heap.size, 0, none⟩ = some (.int .i64 0) := (by rw [k9 _ _ (by first | omega | (simp; done) | (simp; omega))]; first | (simp; done) | go_simp); have zf0 : x9.frozen? ⟨w.heap.size, 0, none⟩ = false := (by rw [f9 _ _ (by first | omega | (simp; done) | (simp; omega))]; first | (simp; done) | go_simp); have z1 : x9.cell? ⟨w.heap.size, 1, none⟩ = some (.int .i64 0) := (by rw [k9 _ _ (by first | omega | (simp; done) | (simp; omega))]; first | (simp; done) | go_simp); have zf1 : x9.frozen? ⟨w.heap.size, 1, none⟩ = false := (by rw [f9 _ _ (by first | omega | (simp; done) | (simp; omega))]; first | (simp; done) | go_simp)) | (go_at_call 51; first | (refine (within_t _ _ _ _ (by omega)).mono ?_; rintro e w' ⟨rfl, rfl⟩) | (refine (within_f _ _ _ _ (by omega)).mono ?_; rintro e w' ⟨rfl, rfl⟩)) | go_in)
      exact bodyPost_ret (v := .tuple #[.agg #[.int .i64 0, .int .i64 0], .int .i64 2]) (by simp [results, Try.results42, go_sem, z0, z1]) rfl ⟨rfl, (by repeat (first | assumption | exact Below.refl _ _ | (refine Below.trans ?_ (b9.mono (by first | omega | (simp; done) | (simp; omega)))) | (refine Below.setCell ?_ (by first | omega | (simp; done) | (simp; omega)) _) | apply below_drewN | apply Below.drew | (refine Below.alloc ?_ (by first | omega | (simp; done) | (simp; omega)) _)))⟩
    · go_enter Try.func42, Try.ntmps42
      go_wp2_with (first | (go_at_call 52; refine (lv2_t a b (w.alloc (.cells #[.int .i64 0, .int .i64 0] 48)) _ (w.heap.size + 1) (by simp) rfl false ⟨fun h => (by simp at h), fun h => absurd h (fun g => hb g.2)⟩).mono ?_; rintro e9 x9 ⟨rfl, b9⟩; have d9 := b9.size; (try simp at d9); obtain ⟨k9, f9⟩ := bcell (show Below (w.alloc (.cells #[.int .i64 0, .int .i64 0] 48)).heap.size _ x9 from b9.mono (by simp)); have z0 : x9.cell? ⟨w.heap.size, 0, none⟩ = some (.int .i64 0) := (by rw [k9 _ _ (by first | omega | (simp; done) | (simp; omega))]; first | (simp; done) | go_simp); have zf0 : x9.frozen? ⟨w.heap.size, 0, none⟩ = false := (by rw [f9 _ _ (by first | omega | (simp; done) | (simp; omega))]; first | (simp; done) | go_simp); have z1 : x9.cell? ⟨w.heap.size, 1, none⟩ = some (.int .i64 0) := (by rw [k9 _ _ (by first | omega | (simp; done) | (simp; omega))]; first | (simp; done) | go_simp); have zf1 : x9.frozen? ⟨w.heap.size, 1, none⟩ = false := (by rw [f9 _ _ (by first | omega | (simp; done) | (simp; omega))]; first | (simp; done) | go_simp)) | (go_at_call 51; first | (refine (within_t _ _ _ _ (by omega)).mono ?_; rintro e w' ⟨rfl, rfl⟩) | (refine (within_f _ _ _ _ (by omega)).mono ?_; rintro e w' ⟨rfl, rfl⟩)) | go_in)
      exact bodyPost_ret (v := .tuple #[.agg #[.int .i64 0, .int .i64 0], .int .i64 2]) (by simp [results, Try.results42, go_sem, z0, z1]) rfl ⟨rfl, (by repeat (first | assumption | exact Below.refl _ _ | (refine Below.trans ?_ (b9.mono (by first | omega | (simp; done) | (simp; omega)))) | (refine Below.setCell ?_ (by first | omega | (simp; done) | (simp; omega)) _) | apply below_drewN | apply Below.drew | (refine Below.alloc ?_ (by first | omega | (simp; done) | (simp; omega)) _)))⟩
  · go_enter Try.func42, Try.ntmps42
    go_wp2_with (first | (go_at_call 52; refine (lv2_t a b (w.alloc (.cells #[.int .i64 0, .int .i64 0] 48)) _ (w.heap.size + 1) (by simp) rfl false ⟨fun h => (by simp at h), fun h => absurd h (fun g => ha g.1)⟩).mono ?_; rintro e9 x9 ⟨rfl, b9⟩; have d9 := b9.size; (try simp at d9); obtain ⟨k9, f9⟩ := bcell (show Below (w.alloc (.cells #[.int .i64 0, .int .i64 0] 48)).heap.size _ x9 from b9.mono (by simp)); have z0 : x9.cell? ⟨w.heap.size, 0, none⟩ = some (.int .i64 0) := (by rw [k9 _ _ (by first | omega | (simp; done) | (simp; omega))]; first | (simp; done) | go_simp); have zf0 : x9.frozen? ⟨w.heap.size, 0, none⟩ = false := (by rw [f9 _ _ (by first | omega | (simp; done) | (simp; omega))]; first | (simp; done) | go_simp); have z1 : x9.cell? ⟨w.heap.size, 1, none⟩ = some (.int .i64 0) := (by rw [k9 _ _ (by first | omega | (simp; done) | (simp; omega))]; first | (simp; done) | go_simp); have zf1 : x9.frozen? ⟨w.heap.size, 1, none⟩ = false := (by rw [f9 _ _ (by first | omega | (simp; done) | (simp; omega))]; first | (simp; done) | go_simp)) | (go_at_call 51; first | (refine (within_t _ _ _ _ (by omega)).mono ?_; rintro e w' ⟨rfl, rfl⟩) | (refine (within_f _ _ _ _ (by omega)).mono ?_; rintro e w' ⟨rfl, rfl⟩)) | go_in)
    exact bodyPost_ret (v := .tuple #[.agg #[.int .i64 0, .int .i64 0], .int .i64 2]) (by simp [results, Try.results42, go_sem, z0, z1]) rfl ⟨rfl, (by repeat (first | assumption | exact Below.refl _ _ | (refine Below.trans ?_ (b9.mono (by first | omega | (simp; done) | (simp; omega)))) | (refine Below.setCell ?_ (by first | omega | (simp; done) | (simp; omega)) _) | apply below_drewN | apply Below.drew | (refine Below.alloc ?_ (by first | omega | (simp; done) | (simp; omega)) _)))⟩

set_option maxHeartbeats 400000 in
theorem walk_FnExactSlopeBetween (a0 : Int) (a1 : Int) (a2 : Int) (w : World) (w0 : (Lit.int .i64 a0).wf = true) (w1 : (Lit.int .i64 a1).wf = true) (w2 : (Lit.int .i64 a2).wf = true) :
    Calls Try.prog 12 #[.int .i64 a0, .int .i64 a1, .int .i64 a2] w fun e w' => e = .returned (.bool true) ∧ Below w.heap.size w w' := by
  by_cases hv : -2000 ≤ a0 ∧ a0 ≤ 2000 ∧ -2000 ≤ a1 ∧ a1 ≤ 2000 ∧ 1 ≤ a2 ∧ a2 ≤ 100000
  · obtain ⟨v1, v2, v3, v4, v5, v6⟩ := hv
    go_enter Try.func12, Try.ntmps12
    go_wp2_with (first
      | (go_at_call 41; refine (spec_slope _ _ _ _ v1 v2 v3 v4 v5 v6).mono ?_; rintro e x1 ⟨rfl, hb⟩; obtain ⟨hc, hf⟩ := bcell hb; have hz := hb.size)
      | (go_at_call 42; refine (impl_slope _ _ _ _ v1 v2 v3 v4 v5 v6).mono ?_; rintro e x2 ⟨rfl, hb2⟩; obtain ⟨hc2, hf2⟩ := bcell hb2; have hz2 : x1.heap.size < x2.heap.size := by have := hb2.size; simp at this; omega)
      | (go_at_call 43; refine (eqfrac_t _ _ _).mono ?_; rintro e x3 ⟨rfl, hb3⟩))
    go_ret
    exact ⟨rfl, (Below.trans (Below.trans hb ((Below.refl _ _).alloc hz _)) (Below.trans (hb2.mono (by simp; omega)) ((Below.refl _ _).alloc (by omega) _))).trans (hb3.mono (by simp; omega))⟩
  · go_enter Try.func12, Try.ntmps12
    go_wp2_with (first
      | (go_at_call 41; refine (spec_slope_bad _ _ _ _ hv).mono ?_; rintro e x1 ⟨rfl, hb⟩; obtain ⟨hc, hf⟩ := bcell hb; have hz := hb.size)
      | (go_at_call 42; refine (impl_slope_bad _ _ _ _ hv).mono ?_; rintro e x2 ⟨rfl, hb2⟩; obtain ⟨hc2, hf2⟩ := bcell hb2; have hz2 : x1.heap.size < x2.heap.size := by have := hb2.size; simp at this; omega)
      | (go_at_call 43; refine (eqfrac_t _ _ _).mono ?_; rintro e x3 ⟨rfl, hb3⟩))
    go_ret
    exact ⟨rfl, (Below.trans (Below.trans hb ((Below.refl _ _).alloc hz _)) (Below.trans (hb2.mono (by simp; omega)) ((Below.refl _ _).alloc (by omega) _))).trans (hb3.mono (by simp; omega))⟩

end Go.Proofs.Ytagnhlcgfcppjab
