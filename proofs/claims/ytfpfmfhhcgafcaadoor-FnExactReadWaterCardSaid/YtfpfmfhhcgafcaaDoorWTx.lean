/- The text of the water of a day: of the model and of the program. -/
import Derived.Test.YtfpfmfhhcgafcaaDoorWatC
import Derived.Test.YtfpfmfhhcgafcaaDoorDecI
import Derived.Lib.ItoaLen
import Derived.Deep.RegionHeld3
namespace Go.Proofs.YtfpfmfhhcgafcaaDoor
open Go.RowKit

def wD (n : Int) : ByteArray := ⟨(Lib.itoa n).toArray⟩
theorem wD_size {n : Int} (h : I64 n) : (wD n).size ≤ 21 := Lib.itoa_length_le n h.1 h.2
def wT (a b c d e : Int) : ByteArray := (⟨#[114, 97, 105, 110, 32]⟩ : ByteArray) ++ wD a ++ ⟨#[32, 115, 101, 101, 112, 32]⟩ ++ wD b ++ ⟨#[32, 100, 114, 121, 32]⟩ ++ wD c ++ ⟨#[32, 112, 117, 109, 112, 32]⟩ ++ wD d ++ ⟨#[32, 115, 108, 117, 105, 99, 101, 32]⟩ ++ wD e
theorem wdspec (n : Int) (t : ByteArray) (w : World) (hn : I64 n) (e : t = wD n) :
    Calls Tryd.prog 20 #[.int .i64 n] w fun e w' => e = .returned (.string t) ∧ Below w.heap.size w w' := by
  subst e
  exact dec_spec n w hn

set_option maxRecDepth 100000 in
set_option maxHeartbeats 3200000 in
theorem wtspec (q r : Nat) (a b c d e : Int) (w : World) (hq : q < w.heap.size) (hat : AtWater w q r ⟨a, b, c, d, e⟩) (hg : waOk a b c d e) (t : ByteArray) (ht : t = wT a b c d e) :
    Calls Tryd.prog 12 #[.pointer (some ⟨q, r, none⟩)] w fun e w' => e = .returned (.string t) ∧ Below w.heap.size w w' := by
  obtain ⟨x0, x1, x2, x3, x4⟩ := hat
  simp only at x0 x1 x2 x3 x4
  obtain ⟨⟨g0, g0m⟩, ⟨g1, g1m⟩, ⟨g2, g2m⟩, ⟨g3, g3m⟩, ⟨g4, g4m⟩⟩ := hg
  have hI0 : I64 a := ⟨by omega, by omega⟩
  have hI1 : I64 b := ⟨by omega, by omega⟩
  have hI2 : I64 c := ⟨by omega, by omega⟩
  have hI3 : I64 d := ⟨by omega, by omega⟩
  have hI4 : I64 e := ⟨by omega, by omega⟩
  obtain ⟨t0, ht0⟩ : ∃ t, t = wD a := ⟨_, rfl⟩
  have z0 : t0.size ≤ 21 := by rw [ht0]; exact wD_size hI0
  have E0 := Lib.hid ht0
  obtain ⟨t1, ht1⟩ : ∃ t, t = wD b := ⟨_, rfl⟩
  have z1 : t1.size ≤ 21 := by rw [ht1]; exact wD_size hI1
  have E1 := Lib.hid ht1
  obtain ⟨t2, ht2⟩ : ∃ t, t = wD c := ⟨_, rfl⟩
  have z2 : t2.size ≤ 21 := by rw [ht2]; exact wD_size hI2
  have E2 := Lib.hid ht2
  obtain ⟨t3, ht3⟩ : ∃ t, t = wD d := ⟨_, rfl⟩
  have z3 : t3.size ≤ 21 := by rw [ht3]; exact wD_size hI3
  have E3 := Lib.hid ht3
  obtain ⟨t4, ht4⟩ : ∃ t, t = wD e := ⟨_, rfl⟩
  have z4 : t4.size ≤ 21 := by rw [ht4]; exact wD_size hI4
  have E4 := Lib.hid ht4
  have HW := Lib.hid (show t = (⟨#[114, 97, 105, 110, 32]⟩ : ByteArray) ++ t0 ++ ⟨#[32, 115, 101, 101, 112, 32]⟩ ++ t1 ++ ⟨#[32, 100, 114, 121, 32]⟩ ++ t2 ++ ⟨#[32, 112, 117, 109, 112, 32]⟩ ++ t3 ++ ⟨#[32, 115, 108, 117, 105, 99, 101, 32]⟩ ++ t4 by rw [ht, ht0, ht1, ht2, ht3, ht4]; rfl)
  clear ht ht0 ht1 ht2 ht3 ht4 g0 g0m g1 g1m g2 g2m g3 g3m g4 g4m
  have y1 : ((⟨#[114, 97, 105, 110, 32]⟩ : ByteArray) ++ t0).size = 5 + t0.size := by rw [ByteArray.size_append]; rfl
  have y2 : ((⟨#[114, 97, 105, 110, 32]⟩ : ByteArray) ++ t0 ++ ⟨#[32, 115, 101, 101, 112, 32]⟩).size = 5 + t0.size + 6 := by rw [ByteArray.size_append, y1]; rfl
  have y3 : ((⟨#[114, 97, 105, 110, 32]⟩ : ByteArray) ++ t0 ++ ⟨#[32, 115, 101, 101, 112, 32]⟩ ++ t1).size = 5 + t0.size + 6 + t1.size := by rw [ByteArray.size_append, y2]
  have y4 : ((⟨#[114, 97, 105, 110, 32]⟩ : ByteArray) ++ t0 ++ ⟨#[32, 115, 101, 101, 112, 32]⟩ ++ t1 ++ ⟨#[32, 100, 114, 121, 32]⟩).size = 5 + t0.size + 6 + t1.size + 5 := by rw [ByteArray.size_append, y3]; rfl
  have y5 : ((⟨#[114, 97, 105, 110, 32]⟩ : ByteArray) ++ t0 ++ ⟨#[32, 115, 101, 101, 112, 32]⟩ ++ t1 ++ ⟨#[32, 100, 114, 121, 32]⟩ ++ t2).size = 5 + t0.size + 6 + t1.size + 5 + t2.size := by rw [ByteArray.size_append, y4]
  have y6 : ((⟨#[114, 97, 105, 110, 32]⟩ : ByteArray) ++ t0 ++ ⟨#[32, 115, 101, 101, 112, 32]⟩ ++ t1 ++ ⟨#[32, 100, 114, 121, 32]⟩ ++ t2 ++ ⟨#[32, 112, 117, 109, 112, 32]⟩).size = 5 + t0.size + 6 + t1.size + 5 + t2.size + 6 := by rw [ByteArray.size_append, y5]; rfl
  have y7 : ((⟨#[114, 97, 105, 110, 32]⟩ : ByteArray) ++ t0 ++ ⟨#[32, 115, 101, 101, 112, 32]⟩ ++ t1 ++ ⟨#[32, 100, 114, 121, 32]⟩ ++ t2 ++ ⟨#[32, 112, 117, 109, 112, 32]⟩ ++ t3).size = 5 + t0.size + 6 + t1.size + 5 + t2.size + 6 + t3.size := by rw [ByteArray.size_append, y6]
  have y8 : ((⟨#[114, 97, 105, 110, 32]⟩ : ByteArray) ++ t0 ++ ⟨#[32, 115, 101, 101, 112, 32]⟩ ++ t1 ++ ⟨#[32, 100, 114, 121, 32]⟩ ++ t2 ++ ⟨#[32, 112, 117, 109, 112, 32]⟩ ++ t3 ++ ⟨#[32, 115, 108, 117, 105, 99, 101, 32]⟩).size = 5 + t0.size + 6 + t1.size + 5 + t2.size + 6 + t3.size + 8 := by rw [ByteArray.size_append, y7]; rfl
  have y9 : ((⟨#[114, 97, 105, 110, 32]⟩ : ByteArray) ++ t0 ++ ⟨#[32, 115, 101, 101, 112, 32]⟩ ++ t1 ++ ⟨#[32, 100, 114, 121, 32]⟩ ++ t2 ++ ⟨#[32, 112, 117, 109, 112, 32]⟩ ++ t3 ++ ⟨#[32, 115, 108, 117, 105, 99, 101, 32]⟩ ++ t4).size = 5 + t0.size + 6 + t1.size + 5 + t2.size + 6 + t3.size + 8 + t4.size := by rw [ByteArray.size_append, y8]
  go_enter Tryd.func12, Tryd.ntmps12
  go_wp2_with fail
  refine wp_region_held_drew (S := fun w' => w'.cell? ⟨q, r, none⟩ = some (.int .i64 a) ∧ w'.cell? ⟨q, r + 1, none⟩ = some (.int .i64 b) ∧ w'.cell? ⟨q, r + 2, none⟩ = some (.int .i64 c) ∧ w'.cell? ⟨q, r + 3, none⟩ = some (.int .i64 d) ∧ w'.cell? ⟨q, r + 4, none⟩ = some (.int .i64 e)) (by kernel_rfl) ⟨x0, x1, x2, x3, x4⟩ (fun hHeld => ?_)
  ((refine wpAnyH_take (i := 0) (oi := ⟨some 3, _, _, _, _, _⟩) (v := ?_) rfl (by kernel_rfl) (by kernel_rfl) (by kernel_rfl) (fun _ _ _ h => h) (Or.inl ⟨by rfl, ?_⟩) (by assumption) ?_; rotate_left 1; (focus (intro w hSw; (try dsimp only at hSw); go_simp <;> try (first | (with_reducible rfl) | (rw [if_neg (by omega)]) | (rw [if_pos (by omega)])))); try simp only [Act.put, List.setIfInBounds_toArray, List.set_cons_zero, List.set_cons_succ]); (refine wpAnyH_take (i := 1) (oi := ⟨some 4, _, _, _, _, _⟩) (v := ?_) rfl (by kernel_rfl) (by kernel_rfl) (by kernel_rfl) (fun _ _ _ h => h) (Or.inl ⟨by rfl, ?_⟩) (by assumption) ?_; rotate_left 1; (focus (intro w hSw; (try dsimp only at hSw); go_simp <;> try (first | (with_reducible rfl) | (rw [if_neg (by omega)]) | (rw [if_pos (by omega)])))); try simp only [Act.put, List.setIfInBounds_toArray, List.set_cons_zero, List.set_cons_succ]); (refine wpAnyH_take (i := 2) (oi := ⟨some 5, _, _, _, _, _⟩) (v := ?_) rfl (by kernel_rfl) (by kernel_rfl) (by kernel_rfl) (fun _ _ _ h => h) (Or.inl ⟨by rfl, ?_⟩) (by assumption) ?_; rotate_left 1; (focus (intro w hSw; (try dsimp only at hSw); go_simp <;> try (first | (with_reducible rfl) | (rw [if_neg (by omega)]) | (rw [if_pos (by omega)])))); try simp only [Act.put, List.setIfInBounds_toArray, List.set_cons_zero, List.set_cons_succ]); (refine wpAnyH_take (i := 3) (oi := ⟨some 6, _, _, _, _, _⟩) (v := ?_) rfl (by kernel_rfl) (by kernel_rfl) (by kernel_rfl) (fun _ _ _ h => h) (Or.inl ⟨by rfl, ?_⟩) (by assumption) ?_; rotate_left 1; (focus (intro w hSw; (try dsimp only at hSw); go_simp <;> try (first | (with_reducible rfl) | (rw [if_neg (by omega)]) | (rw [if_pos (by omega)])))); try simp only [Act.put, List.setIfInBounds_toArray, List.set_cons_zero, List.set_cons_succ]); (refine wpAnyH_take (i := 7) (oi := ⟨some 10, _, _, _, _, _⟩) (v := ?_) rfl (by kernel_rfl) (by kernel_rfl) (by kernel_rfl) (fun _ _ _ h => h) (Or.inl ⟨by rfl, ?_⟩) (by assumption) ?_; rotate_left 1; (focus (intro w hSw; (try dsimp only at hSw); go_simp <;> try (first | (with_reducible rfl) | (rw [if_neg (by omega)]) | (rw [if_pos (by omega)])))); try simp only [Act.put, List.setIfInBounds_toArray, List.set_cons_zero, List.set_cons_succ]); (refine wpAnyH_take (i := 8) (oi := ⟨some 11, _, _, _, _, _⟩) (v := ?_) rfl (by kernel_rfl) (by kernel_rfl) (by kernel_rfl) (fun _ _ _ h => h) (Or.inl ⟨by rfl, ?_⟩) (by assumption) ?_; rotate_left 1; (focus (intro w hSw; (try dsimp only at hSw); go_simp <;> try (first | (with_reducible rfl) | (rw [if_neg (by omega)]) | (rw [if_pos (by omega)])))); try simp only [Act.put, List.setIfInBounds_toArray, List.set_cons_zero, List.set_cons_succ]); (refine wpAnyH_take (i := 9) (oi := ⟨some 12, _, _, _, _, _⟩) (v := ?_) rfl (by kernel_rfl) (by kernel_rfl) (by kernel_rfl) (fun _ _ _ h => h) (Or.inl ⟨by rfl, ?_⟩) (by assumption) ?_; rotate_left 1; (focus (intro w hSw; (try dsimp only at hSw); go_simp <;> try (first | (with_reducible rfl) | (rw [if_neg (by omega)]) | (rw [if_pos (by omega)])))); try simp only [Act.put, List.setIfInBounds_toArray, List.set_cons_zero, List.set_cons_succ]); (refine wpAnyH_take (i := 10) (oi := ⟨some 13, _, _, _, _, _⟩) (v := ?_) rfl (by kernel_rfl) (by kernel_rfl) (by kernel_rfl) (fun _ _ _ h => h) (Or.inl ⟨by rfl, ?_⟩) (by assumption) ?_; rotate_left 1; (focus (intro w hSw; (try dsimp only at hSw); go_simp <;> try (first | (with_reducible rfl) | (rw [if_neg (by omega)]) | (rw [if_pos (by omega)])))); try simp only [Act.put, List.setIfInBounds_toArray, List.set_cons_zero, List.set_cons_succ]); (refine wpAnyH_take (i := 14) (oi := ⟨some 17, _, _, _, _, _⟩) (v := ?_) rfl (by kernel_rfl) (by kernel_rfl) (by kernel_rfl) (fun _ _ _ h => h) (Or.inl ⟨by rfl, ?_⟩) (by assumption) ?_; rotate_left 1; (focus (intro w hSw; (try dsimp only at hSw); go_simp <;> try (first | (with_reducible rfl) | (rw [if_neg (by omega)]) | (rw [if_pos (by omega)])))); try simp only [Act.put, List.setIfInBounds_toArray, List.set_cons_zero, List.set_cons_succ]); (refine wpAnyH_take (i := 15) (oi := ⟨some 18, _, _, _, _, _⟩) (v := ?_) rfl (by kernel_rfl) (by kernel_rfl) (by kernel_rfl) (fun _ _ _ h => h) (Or.inl ⟨by rfl, ?_⟩) (by assumption) ?_; rotate_left 1; (focus (intro w hSw; (try dsimp only at hSw); go_simp <;> try (first | (with_reducible rfl) | (rw [if_neg (by omega)]) | (rw [if_pos (by omega)])))); try simp only [Act.put, List.setIfInBounds_toArray, List.set_cons_zero, List.set_cons_succ]); (refine wpAnyH_take (i := 16) (oi := ⟨some 19, _, _, _, _, _⟩) (v := ?_) rfl (by kernel_rfl) (by kernel_rfl) (by kernel_rfl) (fun _ _ _ h => h) (Or.inl ⟨by rfl, ?_⟩) (by assumption) ?_; rotate_left 1; (focus (intro w hSw; (try dsimp only at hSw); go_simp <;> try (first | (with_reducible rfl) | (rw [if_neg (by omega)]) | (rw [if_pos (by omega)])))); try simp only [Act.put, List.setIfInBounds_toArray, List.set_cons_zero, List.set_cons_succ]); (refine wpAnyH_take (i := 17) (oi := ⟨some 20, _, _, _, _, _⟩) (v := ?_) rfl (by kernel_rfl) (by kernel_rfl) (by kernel_rfl) (fun _ _ _ h => h) (Or.inl ⟨by rfl, ?_⟩) (by assumption) ?_; rotate_left 1; (focus (intro w hSw; (try dsimp only at hSw); go_simp <;> try (first | (with_reducible rfl) | (rw [if_neg (by omega)]) | (rw [if_pos (by omega)])))); try simp only [Act.put, List.setIfInBounds_toArray, List.set_cons_zero, List.set_cons_succ]); (refine wpAnyH_take (i := 21) (oi := ⟨some 24, _, _, _, _, _⟩) (v := ?_) rfl (by kernel_rfl) (by kernel_rfl) (by kernel_rfl) (fun _ _ _ h => h) (Or.inl ⟨by rfl, ?_⟩) (by assumption) ?_; rotate_left 1; (focus (intro w hSw; (try dsimp only at hSw); go_simp <;> try (first | (with_reducible rfl) | (rw [if_neg (by omega)]) | (rw [if_pos (by omega)])))); try simp only [Act.put, List.setIfInBounds_toArray, List.set_cons_zero, List.set_cons_succ]); (refine wpAnyH_take (i := 22) (oi := ⟨some 25, _, _, _, _, _⟩) (v := ?_) rfl (by kernel_rfl) (by kernel_rfl) (by kernel_rfl) (fun _ _ _ h => h) (Or.inl ⟨by rfl, ?_⟩) (by assumption) ?_; rotate_left 1; (focus (intro w hSw; (try dsimp only at hSw); go_simp <;> try (first | (with_reducible rfl) | (rw [if_neg (by omega)]) | (rw [if_pos (by omega)])))); try simp only [Act.put, List.setIfInBounds_toArray, List.set_cons_zero, List.set_cons_succ]); (refine wpAnyH_take (i := 23) (oi := ⟨some 26, _, _, _, _, _⟩) (v := ?_) rfl (by kernel_rfl) (by kernel_rfl) (by kernel_rfl) (fun _ _ _ h => h) (Or.inl ⟨by rfl, ?_⟩) (by assumption) ?_; rotate_left 1; (focus (intro w hSw; (try dsimp only at hSw); go_simp <;> try (first | (with_reducible rfl) | (rw [if_neg (by omega)]) | (rw [if_pos (by omega)])))); try simp only [Act.put, List.setIfInBounds_toArray, List.set_cons_zero, List.set_cons_succ]); (refine wpAnyH_take (i := 24) (oi := ⟨some 27, _, _, _, _, _⟩) (v := ?_) rfl (by kernel_rfl) (by kernel_rfl) (by kernel_rfl) (fun _ _ _ h => h) (Or.inl ⟨by rfl, ?_⟩) (by assumption) ?_; rotate_left 1; (focus (intro w hSw; (try dsimp only at hSw); go_simp <;> try (first | (with_reducible rfl) | (rw [if_neg (by omega)]) | (rw [if_pos (by omega)])))); try simp only [Act.put, List.setIfInBounds_toArray, List.set_cons_zero, List.set_cons_succ]); (refine wpAnyH_take (i := 28) (oi := ⟨some 31, _, _, _, _, _⟩) (v := ?_) rfl (by kernel_rfl) (by kernel_rfl) (by kernel_rfl) (fun _ _ _ h => h) (Or.inl ⟨by rfl, ?_⟩) (by assumption) ?_; rotate_left 1; (focus (intro w hSw; (try dsimp only at hSw); go_simp <;> try (first | (with_reducible rfl) | (rw [if_neg (by omega)]) | (rw [if_pos (by omega)])))); try simp only [Act.put, List.setIfInBounds_toArray, List.set_cons_zero, List.set_cons_succ]); (refine wpAnyH_take (i := 29) (oi := ⟨some 32, _, _, _, _, _⟩) (v := ?_) rfl (by kernel_rfl) (by kernel_rfl) (by kernel_rfl) (fun _ _ _ h => h) (Or.inl ⟨by rfl, ?_⟩) (by assumption) ?_; rotate_left 1; (focus (intro w hSw; (try dsimp only at hSw); go_simp <;> try (first | (with_reducible rfl) | (rw [if_neg (by omega)]) | (rw [if_pos (by omega)])))); try simp only [Act.put, List.setIfInBounds_toArray, List.set_cons_zero, List.set_cons_succ]); (refine wpAnyH_take (i := 30) (oi := ⟨some 33, _, _, _, _, _⟩) (v := ?_) rfl (by kernel_rfl) (by kernel_rfl) (by kernel_rfl) (fun _ _ _ h => h) (Or.inl ⟨by rfl, ?_⟩) (by assumption) ?_; rotate_left 1; (focus (intro w hSw; (try dsimp only at hSw); go_simp <;> try (first | (with_reducible rfl) | (rw [if_neg (by omega)]) | (rw [if_pos (by omega)])))); try simp only [Act.put, List.setIfInBounds_toArray, List.set_cons_zero, List.set_cons_succ]); (refine wpAnyH_take (i := 31) (oi := ⟨some 34, _, _, _, _, _⟩) (v := ?_) rfl (by kernel_rfl) (by kernel_rfl) (by kernel_rfl) (fun _ _ _ h => h) (Or.inl ⟨by rfl, ?_⟩) (by assumption) ?_; rotate_left 1; (focus (intro w hSw; (try dsimp only at hSw); go_simp <;> try (first | (with_reducible rfl) | (rw [if_neg (by omega)]) | (rw [if_pos (by omega)])))); try simp only [Act.put, List.setIfInBounds_toArray, List.set_cons_zero, List.set_cons_succ]))
  (refine wpAnyH_ready (rs := [4]) (by kernel_rfl) (by simp) ?_; refine AllReadyH.cons rfl (fun K hK => ?_) AllReadyH.nil; go_simp)
  refine (wdspec a t0 _ hI0 E0.out).mono ?_
  rintro e0v V0 ⟨rfl, B0⟩
  have q00 := (B0.cell (p := ⟨q, r, none⟩) (by first | omega | (simp; done) | (simp; omega))).trans hHeld.1
  have q01 := (B0.cell (p := ⟨q, r + 1, none⟩) (by first | omega | (simp; done) | (simp; omega))).trans hHeld.2.1
  have q02 := (B0.cell (p := ⟨q, r + 2, none⟩) (by first | omega | (simp; done) | (simp; omega))).trans hHeld.2.2.1
  have q03 := (B0.cell (p := ⟨q, r + 3, none⟩) (by first | omega | (simp; done) | (simp; omega))).trans hHeld.2.2.2.1
  have q04 := (B0.cell (p := ⟨q, r + 4, none⟩) (by first | omega | (simp; done) | (simp; omega))).trans hHeld.2.2.2.2
  have G0 : q < V0.heap.size := (by have := B0.size; (try simp at this); omega)
  have L0 : w.heap.size ≤ V0.heap.size := (by have := B0.size; (try simp at this); omega)
  have D0 : Below w.heap.size w V0 := (by repeat (first | assumption | exact Below.refl _ _ | (refine Below.trans ?_ (B0.mono (by first | omega | (simp; done) | (simp; omega)))) | (refine Below.setCell ?_ (by first | omega | (simp; done) | (simp; omega)) _) | apply below_drewN | apply Below.drew | (refine Below.alloc ?_ (by first | omega | (simp; done) | (simp; omega)) _)))
  clear hHeld
  (refine hK.out _ _ ?_ (fun hHeld => ?_))
  · exact ⟨q00, q01, q02, q03, q04⟩
  clear hK K
  ((refine wpAnyH_take (i := 5) (oi := ⟨some 8, _, _, _, _, _⟩) (v := ?_) rfl (by kernel_rfl) (by kernel_rfl) (by kernel_rfl) (fun _ _ _ h => h) (Or.inl ⟨by rfl, ?_⟩) (by assumption) ?_; rotate_left 1; (focus (intro w hSw; (try dsimp only at hSw); go_simp <;> try (first | (with_reducible rfl) | (rw [if_neg (by omega)]) | (rw [if_pos (by omega)])))); try simp only [Act.put, List.setIfInBounds_toArray, List.set_cons_zero, List.set_cons_succ]); (refine wpAnyH_take (i := 6) (oi := ⟨some 9, _, _, _, _, _⟩) (v := ?_) rfl (by kernel_rfl) (by kernel_rfl) (by kernel_rfl) (fun _ _ _ h => h) (Or.inl ⟨by rfl, ?_⟩) (by assumption) ?_; rotate_left 1; (focus (intro w hSw; (try dsimp only at hSw); go_simp <;> try (first | (with_reducible rfl) | (rw [if_neg (by omega)]) | (rw [if_pos (by omega)])))); try simp only [Act.put, List.setIfInBounds_toArray, List.set_cons_zero, List.set_cons_succ]))
  (refine wpAnyH_ready (rs := [11]) (by kernel_rfl) (by simp) ?_; refine AllReadyH.cons rfl (fun K hK => ?_) AllReadyH.nil; go_simp)
  refine (wdspec b t1 _ hI1 E1.out).mono ?_
  rintro e1v V1 ⟨rfl, B1⟩
  have q10 := (B1.cell (p := ⟨q, r, none⟩) (by first | omega | (simp; done) | (simp; omega))).trans hHeld.1
  have q11 := (B1.cell (p := ⟨q, r + 1, none⟩) (by first | omega | (simp; done) | (simp; omega))).trans hHeld.2.1
  have q12 := (B1.cell (p := ⟨q, r + 2, none⟩) (by first | omega | (simp; done) | (simp; omega))).trans hHeld.2.2.1
  have q13 := (B1.cell (p := ⟨q, r + 3, none⟩) (by first | omega | (simp; done) | (simp; omega))).trans hHeld.2.2.2.1
  have q14 := (B1.cell (p := ⟨q, r + 4, none⟩) (by first | omega | (simp; done) | (simp; omega))).trans hHeld.2.2.2.2
  have G1 : q < V1.heap.size := (by have := B1.size; (try simp at this); omega)
  have L1 : w.heap.size ≤ V1.heap.size := (by have := B1.size; (try simp at this); omega)
  have D1 : Below w.heap.size w V1 := D0.trans (B1.mono (by omega))
  clear hHeld
  (refine hK.out _ _ ?_ (fun hHeld => ?_))
  · exact ⟨q10, q11, q12, q13, q14⟩
  clear hK K
  ((refine wpAnyH_take (i := 12) (oi := ⟨some 15, _, _, _, _, _⟩) (v := ?_) rfl (by kernel_rfl) (by kernel_rfl) (by kernel_rfl) (fun _ _ _ h => h) (Or.inl ⟨by rfl, ?_⟩) (by assumption) ?_; rotate_left 1; (focus (intro w hSw; (try dsimp only at hSw); go_simp <;> try (first | (with_reducible rfl) | (rw [if_neg (by omega)]) | (rw [if_pos (by omega)])))); try simp only [Act.put, List.setIfInBounds_toArray, List.set_cons_zero, List.set_cons_succ]); (refine wpAnyH_take (i := 13) (oi := ⟨some 16, _, _, _, _, _⟩) (v := ?_) rfl (by kernel_rfl) (by kernel_rfl) (by kernel_rfl) (fun _ _ _ h => h) (Or.inl ⟨by rfl, ?_⟩) (by assumption) ?_; rotate_left 1; (focus (intro w hSw; (try dsimp only at hSw); go_simp <;> try (first | (with_reducible rfl) | (rw [if_neg (by omega)]) | (rw [if_pos (by omega)])))); try simp only [Act.put, List.setIfInBounds_toArray, List.set_cons_zero, List.set_cons_succ]))
  (refine wpAnyH_ready (rs := [18]) (by kernel_rfl) (by simp) ?_; refine AllReadyH.cons rfl (fun K hK => ?_) AllReadyH.nil; go_simp)
  refine (wdspec c t2 _ hI2 E2.out).mono ?_
  rintro e2v V2 ⟨rfl, B2⟩
  have q20 := (B2.cell (p := ⟨q, r, none⟩) (by first | omega | (simp; done) | (simp; omega))).trans hHeld.1
  have q21 := (B2.cell (p := ⟨q, r + 1, none⟩) (by first | omega | (simp; done) | (simp; omega))).trans hHeld.2.1
  have q22 := (B2.cell (p := ⟨q, r + 2, none⟩) (by first | omega | (simp; done) | (simp; omega))).trans hHeld.2.2.1
  have q23 := (B2.cell (p := ⟨q, r + 3, none⟩) (by first | omega | (simp; done) | (simp; omega))).trans hHeld.2.2.2.1
  have q24 := (B2.cell (p := ⟨q, r + 4, none⟩) (by first | omega | (simp; done) | (simp; omega))).trans hHeld.2.2.2.2
  have G2 : q < V2.heap.size := (by have := B2.size; (try simp at this); omega)
  have L2 : w.heap.size ≤ V2.heap.size := (by have := B2.size; (try simp at this); omega)
  have D2 : Below w.heap.size w V2 := D1.trans (B2.mono (by omega))
  clear hHeld
  (refine hK.out _ _ ?_ (fun hHeld => ?_))
  · exact ⟨q20, q21, q22, q23, q24⟩
  clear hK K
  ((refine wpAnyH_take (i := 19) (oi := ⟨some 22, _, _, _, _, _⟩) (v := ?_) rfl (by kernel_rfl) (by kernel_rfl) (by kernel_rfl) (fun _ _ _ h => h) (Or.inl ⟨by rfl, ?_⟩) (by assumption) ?_; rotate_left 1; (focus (intro w hSw; (try dsimp only at hSw); go_simp <;> try (first | (with_reducible rfl) | (rw [if_neg (by omega)]) | (rw [if_pos (by omega)])))); try simp only [Act.put, List.setIfInBounds_toArray, List.set_cons_zero, List.set_cons_succ]); (refine wpAnyH_take (i := 20) (oi := ⟨some 23, _, _, _, _, _⟩) (v := ?_) rfl (by kernel_rfl) (by kernel_rfl) (by kernel_rfl) (fun _ _ _ h => h) (Or.inl ⟨by rfl, ?_⟩) (by assumption) ?_; rotate_left 1; (focus (intro w hSw; (try dsimp only at hSw); go_simp <;> try (first | (with_reducible rfl) | (rw [if_neg (by omega)]) | (rw [if_pos (by omega)])))); try simp only [Act.put, List.setIfInBounds_toArray, List.set_cons_zero, List.set_cons_succ]))
  (refine wpAnyH_ready (rs := [25]) (by kernel_rfl) (by simp) ?_; refine AllReadyH.cons rfl (fun K hK => ?_) AllReadyH.nil; go_simp)
  refine (wdspec d t3 _ hI3 E3.out).mono ?_
  rintro e3v V3 ⟨rfl, B3⟩
  have q30 := (B3.cell (p := ⟨q, r, none⟩) (by first | omega | (simp; done) | (simp; omega))).trans hHeld.1
  have q31 := (B3.cell (p := ⟨q, r + 1, none⟩) (by first | omega | (simp; done) | (simp; omega))).trans hHeld.2.1
  have q32 := (B3.cell (p := ⟨q, r + 2, none⟩) (by first | omega | (simp; done) | (simp; omega))).trans hHeld.2.2.1
  have q33 := (B3.cell (p := ⟨q, r + 3, none⟩) (by first | omega | (simp; done) | (simp; omega))).trans hHeld.2.2.2.1
  have q34 := (B3.cell (p := ⟨q, r + 4, none⟩) (by first | omega | (simp; done) | (simp; omega))).trans hHeld.2.2.2.2
  have G3 : q < V3.heap.size := (by have := B3.size; (try simp at this); omega)
  have L3 : w.heap.size ≤ V3.heap.size := (by have := B3.size; (try simp at this); omega)
  have D3 : Below w.heap.size w V3 := D2.trans (B3.mono (by omega))
  clear hHeld
  (refine hK.out _ _ ?_ (fun hHeld => ?_))
  · exact ⟨q30, q31, q32, q33, q34⟩
  clear hK K
  ((refine wpAnyH_take (i := 26) (oi := ⟨some 29, _, _, _, _, _⟩) (v := ?_) rfl (by kernel_rfl) (by kernel_rfl) (by kernel_rfl) (fun _ _ _ h => h) (Or.inl ⟨by rfl, ?_⟩) (by assumption) ?_; rotate_left 1; (focus (intro w hSw; (try dsimp only at hSw); go_simp <;> try (first | (with_reducible rfl) | (rw [if_neg (by omega)]) | (rw [if_pos (by omega)])))); try simp only [Act.put, List.setIfInBounds_toArray, List.set_cons_zero, List.set_cons_succ]); (refine wpAnyH_take (i := 27) (oi := ⟨some 30, _, _, _, _, _⟩) (v := ?_) rfl (by kernel_rfl) (by kernel_rfl) (by kernel_rfl) (fun _ _ _ h => h) (Or.inl ⟨by rfl, ?_⟩) (by assumption) ?_; rotate_left 1; (focus (intro w hSw; (try dsimp only at hSw); go_simp <;> try (first | (with_reducible rfl) | (rw [if_neg (by omega)]) | (rw [if_pos (by omega)])))); try simp only [Act.put, List.setIfInBounds_toArray, List.set_cons_zero, List.set_cons_succ]))
  (refine wpAnyH_ready (rs := [32]) (by kernel_rfl) (by simp) ?_; refine AllReadyH.cons rfl (fun K hK => ?_) AllReadyH.nil; go_simp)
  refine (wdspec e t4 _ hI4 E4.out).mono ?_
  rintro e4v V4 ⟨rfl, B4⟩
  have q40 := (B4.cell (p := ⟨q, r, none⟩) (by first | omega | (simp; done) | (simp; omega))).trans hHeld.1
  have q41 := (B4.cell (p := ⟨q, r + 1, none⟩) (by first | omega | (simp; done) | (simp; omega))).trans hHeld.2.1
  have q42 := (B4.cell (p := ⟨q, r + 2, none⟩) (by first | omega | (simp; done) | (simp; omega))).trans hHeld.2.2.1
  have q43 := (B4.cell (p := ⟨q, r + 3, none⟩) (by first | omega | (simp; done) | (simp; omega))).trans hHeld.2.2.2.1
  have q44 := (B4.cell (p := ⟨q, r + 4, none⟩) (by first | omega | (simp; done) | (simp; omega))).trans hHeld.2.2.2.2
  have G4 : q < V4.heap.size := (by have := B4.size; (try simp at this); omega)
  have L4 : w.heap.size ≤ V4.heap.size := (by have := B4.size; (try simp at this); omega)
  have D4 : Below w.heap.size w V4 := D3.trans (B4.mono (by omega))
  clear hHeld
  (refine hK.out _ _ ?_ (fun hHeld => ?_))
  · exact ⟨q40, q41, q42, q43, q44⟩
  clear hK K
  ((refine wpAnyH_take (i := 33) (oi := ⟨some 36, _, _, _, _, _⟩) (v := ?_) rfl (by kernel_rfl) (by kernel_rfl) (by kernel_rfl) (fun _ _ _ h => h) (Or.inl ⟨by rfl, ?_⟩) (by assumption) ?_; rotate_left 1; (focus (intro w hSw; (try dsimp only at hSw); go_simp <;> try (first | (with_reducible rfl) | (rw [if_neg (by omega)]) | (rw [if_pos (by omega)])))); try simp only [Act.put, List.setIfInBounds_toArray, List.set_cons_zero, List.set_cons_succ]); (refine wpAnyH_take (i := 34) (oi := ⟨some 2, _, _, _, _, _⟩) (v := ?_) rfl (by kernel_rfl) (by kernel_rfl) (by kernel_rfl) (fun _ _ _ h => h) (Or.inl ⟨by rfl, ?_⟩) (by assumption) ?_; rotate_left 1; (focus (intro w hSw; (try dsimp only at hSw); go_simp <;> try (first | (with_reducible rfl) | (rw [if_neg (by omega)]) | (rw [if_pos (by omega)])))); try simp only [Act.put, List.setIfInBounds_toArray, List.set_cons_zero, List.set_cons_succ]))
  refine wpAnyH_done (by kernel_rfl) ?_ _
  go_wp2
  go_ret
  exact ⟨ret_str HW.out.symm, D4⟩

theorem wdimpl (n : Int) (t : ByteArray) (w : World) (hn : I64 n) (ht : PowTab w) (e : t = wD n) :
    Calls Tryd.prog 14 #[.int .i64 n] w fun e w' => e = .returned (.string t) ∧ Below w.heap.size w w' := by
  subst e
  exact dec_impl n w hn ht

set_option maxRecDepth 100000 in
set_option maxHeartbeats 3200000 in
theorem wtimpl (a b c d e : Int) (w : World) (hpow : PowTab w) (hg : waOk a b c d e) (t : ByteArray) (ht : t = wT a b c d e) :
    Calls Tryd.prog 7 #[.agg #[.int .i64 a, .int .i64 b, .int .i64 c, .int .i64 d, .int .i64 e]] w fun e w' => e = .returned (.string t) ∧ Below w.heap.size w w' := by
  have HV := Lib.hid (show true = decide (waOk a b c d e) from (decide_eq_true hg).symm)
  obtain ⟨⟨g0, g0m⟩, ⟨g1, g1m⟩, ⟨g2, g2m⟩, ⟨g3, g3m⟩, ⟨g4, g4m⟩⟩ := hg
  have hI0 : I64 a := ⟨by omega, by omega⟩
  have hI1 : I64 b := ⟨by omega, by omega⟩
  have hI2 : I64 c := ⟨by omega, by omega⟩
  have hI3 : I64 d := ⟨by omega, by omega⟩
  have hI4 : I64 e := ⟨by omega, by omega⟩
  obtain ⟨t0, ht0⟩ : ∃ t, t = wD a := ⟨_, rfl⟩
  have z0 : t0.size ≤ 21 := by rw [ht0]; exact wD_size hI0
  have E0 := Lib.hid ht0
  obtain ⟨t1, ht1⟩ : ∃ t, t = wD b := ⟨_, rfl⟩
  have z1 : t1.size ≤ 21 := by rw [ht1]; exact wD_size hI1
  have E1 := Lib.hid ht1
  obtain ⟨t2, ht2⟩ : ∃ t, t = wD c := ⟨_, rfl⟩
  have z2 : t2.size ≤ 21 := by rw [ht2]; exact wD_size hI2
  have E2 := Lib.hid ht2
  obtain ⟨t3, ht3⟩ : ∃ t, t = wD d := ⟨_, rfl⟩
  have z3 : t3.size ≤ 21 := by rw [ht3]; exact wD_size hI3
  have E3 := Lib.hid ht3
  obtain ⟨t4, ht4⟩ : ∃ t, t = wD e := ⟨_, rfl⟩
  have z4 : t4.size ≤ 21 := by rw [ht4]; exact wD_size hI4
  have E4 := Lib.hid ht4
  have HT := Lib.hid hpow
  have HW := Lib.hid (show t = (⟨#[114, 97, 105, 110, 32]⟩ : ByteArray) ++ t0 ++ ⟨#[32, 115, 101, 101, 112, 32]⟩ ++ t1 ++ ⟨#[32, 100, 114, 121, 32]⟩ ++ t2 ++ ⟨#[32, 112, 117, 109, 112, 32]⟩ ++ t3 ++ ⟨#[32, 115, 108, 117, 105, 99, 101, 32]⟩ ++ t4 by rw [ht, ht0, ht1, ht2, ht3, ht4]; rfl)
  clear ht ht0 ht1 ht2 ht3 ht4 g0 g0m g1 g1m g2 g2m g3 g3m g4 g4m hpow
  have y1 : ((⟨#[114, 97, 105, 110, 32]⟩ : ByteArray) ++ t0).size = 5 + t0.size := by rw [ByteArray.size_append]; rfl
  have y2 : ((⟨#[114, 97, 105, 110, 32]⟩ : ByteArray) ++ t0 ++ ⟨#[32, 115, 101, 101, 112, 32]⟩).size = 5 + t0.size + 6 := by rw [ByteArray.size_append, y1]; rfl
  have y3 : ((⟨#[114, 97, 105, 110, 32]⟩ : ByteArray) ++ t0 ++ ⟨#[32, 115, 101, 101, 112, 32]⟩ ++ t1).size = 5 + t0.size + 6 + t1.size := by rw [ByteArray.size_append, y2]
  have y4 : ((⟨#[114, 97, 105, 110, 32]⟩ : ByteArray) ++ t0 ++ ⟨#[32, 115, 101, 101, 112, 32]⟩ ++ t1 ++ ⟨#[32, 100, 114, 121, 32]⟩).size = 5 + t0.size + 6 + t1.size + 5 := by rw [ByteArray.size_append, y3]; rfl
  have y5 : ((⟨#[114, 97, 105, 110, 32]⟩ : ByteArray) ++ t0 ++ ⟨#[32, 115, 101, 101, 112, 32]⟩ ++ t1 ++ ⟨#[32, 100, 114, 121, 32]⟩ ++ t2).size = 5 + t0.size + 6 + t1.size + 5 + t2.size := by rw [ByteArray.size_append, y4]
  have y6 : ((⟨#[114, 97, 105, 110, 32]⟩ : ByteArray) ++ t0 ++ ⟨#[32, 115, 101, 101, 112, 32]⟩ ++ t1 ++ ⟨#[32, 100, 114, 121, 32]⟩ ++ t2 ++ ⟨#[32, 112, 117, 109, 112, 32]⟩).size = 5 + t0.size + 6 + t1.size + 5 + t2.size + 6 := by rw [ByteArray.size_append, y5]; rfl
  have y7 : ((⟨#[114, 97, 105, 110, 32]⟩ : ByteArray) ++ t0 ++ ⟨#[32, 115, 101, 101, 112, 32]⟩ ++ t1 ++ ⟨#[32, 100, 114, 121, 32]⟩ ++ t2 ++ ⟨#[32, 112, 117, 109, 112, 32]⟩ ++ t3).size = 5 + t0.size + 6 + t1.size + 5 + t2.size + 6 + t3.size := by rw [ByteArray.size_append, y6]
  have y8 : ((⟨#[114, 97, 105, 110, 32]⟩ : ByteArray) ++ t0 ++ ⟨#[32, 115, 101, 101, 112, 32]⟩ ++ t1 ++ ⟨#[32, 100, 114, 121, 32]⟩ ++ t2 ++ ⟨#[32, 112, 117, 109, 112, 32]⟩ ++ t3 ++ ⟨#[32, 115, 108, 117, 105, 99, 101, 32]⟩).size = 5 + t0.size + 6 + t1.size + 5 + t2.size + 6 + t3.size + 8 := by rw [ByteArray.size_append, y7]; rfl
  have y9 : ((⟨#[114, 97, 105, 110, 32]⟩ : ByteArray) ++ t0 ++ ⟨#[32, 115, 101, 101, 112, 32]⟩ ++ t1 ++ ⟨#[32, 100, 114, 121, 32]⟩ ++ t2 ++ ⟨#[32, 112, 117, 109, 112, 32]⟩ ++ t3 ++ ⟨#[32, 115, 108, 117, 105, 99, 101, 32]⟩ ++ t4).size = 5 + t0.size + 6 + t1.size + 5 + t2.size + 6 + t3.size + 8 + t4.size := by rw [ByteArray.size_append, y8]
  go_enter Tryd.func7, Tryd.ntmps7
  go_wp2_with (go_at_call 13; refine (waI_any _ _ _ _ _ _ _ HV.out).mono ?_; rintro e0 W0 ⟨rfl, b0⟩; obtain ⟨k0, f0⟩ := bcell b0; have x0 : W0.cell? ⟨w.heap.size, 0, none⟩ = some (.int .i64 a) := (by rw [k0 _ _ (by first | omega | (simp; done) | (simp; omega))]; first | (simp; done) | go_simp); have xf0 : W0.frozen? ⟨w.heap.size, 0, none⟩ = false := (by rw [f0 _ _ (by first | omega | (simp; done) | (simp; omega))]; first | (simp; done) | go_simp); have x1 : W0.cell? ⟨w.heap.size, 1, none⟩ = some (.int .i64 b) := (by rw [k0 _ _ (by first | omega | (simp; done) | (simp; omega))]; first | (simp; done) | go_simp); have xf1 : W0.frozen? ⟨w.heap.size, 1, none⟩ = false := (by rw [f0 _ _ (by first | omega | (simp; done) | (simp; omega))]; first | (simp; done) | go_simp); have x2 : W0.cell? ⟨w.heap.size, 2, none⟩ = some (.int .i64 c) := (by rw [k0 _ _ (by first | omega | (simp; done) | (simp; omega))]; first | (simp; done) | go_simp); have xf2 : W0.frozen? ⟨w.heap.size, 2, none⟩ = false := (by rw [f0 _ _ (by first | omega | (simp; done) | (simp; omega))]; first | (simp; done) | go_simp); have x3 : W0.cell? ⟨w.heap.size, 3, none⟩ = some (.int .i64 d) := (by rw [k0 _ _ (by first | omega | (simp; done) | (simp; omega))]; first | (simp; done) | go_simp); have xf3 : W0.frozen? ⟨w.heap.size, 3, none⟩ = false := (by rw [f0 _ _ (by first | omega | (simp; done) | (simp; omega))]; first | (simp; done) | go_simp); have x4 : W0.cell? ⟨w.heap.size, 4, none⟩ = some (.int .i64 e) := (by rw [k0 _ _ (by first | omega | (simp; done) | (simp; omega))]; first | (simp; done) | go_simp); have xf4 : W0.frozen? ⟨w.heap.size, 4, none⟩ = false := (by rw [f0 _ _ (by first | omega | (simp; done) | (simp; omega))]; first | (simp; done) | go_simp); have d0 : Below w.heap.size w W0 := (by repeat (first | assumption | exact Below.refl _ _ | (refine Below.trans ?_ (b0.mono (by first | omega | (simp; done) | (simp; omega)))) | (refine Below.setCell ?_ (by first | omega | (simp; done) | (simp; omega)) _) | apply below_drewN | apply Below.drew | (refine Below.alloc ?_ (by first | omega | (simp; done) | (simp; omega)) _))); have s0 : w.heap.size < W0.heap.size := (by have := b0.size; (try simp at this); omega); clear k0 f0 b0)
  refine wp_region_held_drew (S := fun w' => w'.cell? ⟨w.heap.size, 0, none⟩ = some (.int .i64 a) ∧ w'.cell? ⟨w.heap.size, 1, none⟩ = some (.int .i64 b) ∧ w'.cell? ⟨w.heap.size, 2, none⟩ = some (.int .i64 c) ∧ w'.cell? ⟨w.heap.size, 3, none⟩ = some (.int .i64 d) ∧ w'.cell? ⟨w.heap.size, 4, none⟩ = some (.int .i64 e)) (by kernel_rfl) ⟨x0, x1, x2, x3, x4⟩ (fun hHeld => ?_)
  ((refine wpAnyH_take (i := 0) (oi := ⟨some 6, _, _, _, _, _⟩) (v := ?_) rfl (by kernel_rfl) (by kernel_rfl) (by kernel_rfl) (fun _ _ _ h => h) (Or.inl ⟨by rfl, ?_⟩) (by assumption) ?_; rotate_left 1; (focus (intro w hSw; (try dsimp only at hSw); go_simp <;> try (first | (with_reducible rfl) | (rw [if_neg (by omega)]) | (rw [if_pos (by omega)])))); try simp only [Act.put, List.setIfInBounds_toArray, List.set_cons_zero, List.set_cons_succ]); (refine wpAnyH_take (i := 1) (oi := ⟨some 7, _, _, _, _, _⟩) (v := ?_) rfl (by kernel_rfl) (by kernel_rfl) (by kernel_rfl) (fun _ _ _ h => h) (Or.inl ⟨by rfl, ?_⟩) (by assumption) ?_; rotate_left 1; (focus (intro w hSw; (try dsimp only at hSw); go_simp <;> try (first | (with_reducible rfl) | (rw [if_neg (by omega)]) | (rw [if_pos (by omega)])))); try simp only [Act.put, List.setIfInBounds_toArray, List.set_cons_zero, List.set_cons_succ]); (refine wpAnyH_take (i := 5) (oi := ⟨some 11, _, _, _, _, _⟩) (v := ?_) rfl (by kernel_rfl) (by kernel_rfl) (by kernel_rfl) (fun _ _ _ h => h) (Or.inl ⟨by rfl, ?_⟩) (by assumption) ?_; rotate_left 1; (focus (intro w hSw; (try dsimp only at hSw); go_simp <;> try (first | (with_reducible rfl) | (rw [if_neg (by omega)]) | (rw [if_pos (by omega)])))); try simp only [Act.put, List.setIfInBounds_toArray, List.set_cons_zero, List.set_cons_succ]); (refine wpAnyH_take (i := 6) (oi := ⟨some 12, _, _, _, _, _⟩) (v := ?_) rfl (by kernel_rfl) (by kernel_rfl) (by kernel_rfl) (fun _ _ _ h => h) (Or.inl ⟨by rfl, ?_⟩) (by assumption) ?_; rotate_left 1; (focus (intro w hSw; (try dsimp only at hSw); go_simp <;> try (first | (with_reducible rfl) | (rw [if_neg (by omega)]) | (rw [if_pos (by omega)])))); try simp only [Act.put, List.setIfInBounds_toArray, List.set_cons_zero, List.set_cons_succ]); (refine wpAnyH_take (i := 10) (oi := ⟨some 16, _, _, _, _, _⟩) (v := ?_) rfl (by kernel_rfl) (by kernel_rfl) (by kernel_rfl) (fun _ _ _ h => h) (Or.inl ⟨by rfl, ?_⟩) (by assumption) ?_; rotate_left 1; (focus (intro w hSw; (try dsimp only at hSw); go_simp <;> try (first | (with_reducible rfl) | (rw [if_neg (by omega)]) | (rw [if_pos (by omega)])))); try simp only [Act.put, List.setIfInBounds_toArray, List.set_cons_zero, List.set_cons_succ]); (refine wpAnyH_take (i := 11) (oi := ⟨some 17, _, _, _, _, _⟩) (v := ?_) rfl (by kernel_rfl) (by kernel_rfl) (by kernel_rfl) (fun _ _ _ h => h) (Or.inl ⟨by rfl, ?_⟩) (by assumption) ?_; rotate_left 1; (focus (intro w hSw; (try dsimp only at hSw); go_simp <;> try (first | (with_reducible rfl) | (rw [if_neg (by omega)]) | (rw [if_pos (by omega)])))); try simp only [Act.put, List.setIfInBounds_toArray, List.set_cons_zero, List.set_cons_succ]); (refine wpAnyH_take (i := 15) (oi := ⟨some 21, _, _, _, _, _⟩) (v := ?_) rfl (by kernel_rfl) (by kernel_rfl) (by kernel_rfl) (fun _ _ _ h => h) (Or.inl ⟨by rfl, ?_⟩) (by assumption) ?_; rotate_left 1; (focus (intro w hSw; (try dsimp only at hSw); go_simp <;> try (first | (with_reducible rfl) | (rw [if_neg (by omega)]) | (rw [if_pos (by omega)])))); try simp only [Act.put, List.setIfInBounds_toArray, List.set_cons_zero, List.set_cons_succ]); (refine wpAnyH_take (i := 16) (oi := ⟨some 22, _, _, _, _, _⟩) (v := ?_) rfl (by kernel_rfl) (by kernel_rfl) (by kernel_rfl) (fun _ _ _ h => h) (Or.inl ⟨by rfl, ?_⟩) (by assumption) ?_; rotate_left 1; (focus (intro w hSw; (try dsimp only at hSw); go_simp <;> try (first | (with_reducible rfl) | (rw [if_neg (by omega)]) | (rw [if_pos (by omega)])))); try simp only [Act.put, List.setIfInBounds_toArray, List.set_cons_zero, List.set_cons_succ]); (refine wpAnyH_take (i := 20) (oi := ⟨some 26, _, _, _, _, _⟩) (v := ?_) rfl (by kernel_rfl) (by kernel_rfl) (by kernel_rfl) (fun _ _ _ h => h) (Or.inl ⟨by rfl, ?_⟩) (by assumption) ?_; rotate_left 1; (focus (intro w hSw; (try dsimp only at hSw); go_simp <;> try (first | (with_reducible rfl) | (rw [if_neg (by omega)]) | (rw [if_pos (by omega)])))); try simp only [Act.put, List.setIfInBounds_toArray, List.set_cons_zero, List.set_cons_succ]); (refine wpAnyH_take (i := 21) (oi := ⟨some 27, _, _, _, _, _⟩) (v := ?_) rfl (by kernel_rfl) (by kernel_rfl) (by kernel_rfl) (fun _ _ _ h => h) (Or.inl ⟨by rfl, ?_⟩) (by assumption) ?_; rotate_left 1; (focus (intro w hSw; (try dsimp only at hSw); go_simp <;> try (first | (with_reducible rfl) | (rw [if_neg (by omega)]) | (rw [if_pos (by omega)])))); try simp only [Act.put, List.setIfInBounds_toArray, List.set_cons_zero, List.set_cons_succ]))
  (refine wpAnyH_ready (rs := [2]) (by kernel_rfl) (by simp) ?_; refine AllReadyH.cons rfl (fun K hK => ?_) AllReadyH.nil; go_simp)
  refine (wdimpl a t0 _ hI0 (pow_below HT.out (by repeat (first | assumption | exact Below.refl _ _ | (refine Below.setCell ?_ (by first | omega | (simp; done) | (simp; omega)) _) | apply below_drewN | apply Below.drew | (refine Below.alloc ?_ (by first | omega | (simp; done) | (simp; omega)) _)))) E0.out).mono ?_
  rintro e0v V0 ⟨rfl, B0⟩
  have q00 := (B0.cell (p := ⟨w.heap.size, 0, none⟩) (by first | omega | (simp; done) | (simp; omega))).trans hHeld.1
  have q01 := (B0.cell (p := ⟨w.heap.size, 1, none⟩) (by first | omega | (simp; done) | (simp; omega))).trans hHeld.2.1
  have q02 := (B0.cell (p := ⟨w.heap.size, 2, none⟩) (by first | omega | (simp; done) | (simp; omega))).trans hHeld.2.2.1
  have q03 := (B0.cell (p := ⟨w.heap.size, 3, none⟩) (by first | omega | (simp; done) | (simp; omega))).trans hHeld.2.2.2.1
  have q04 := (B0.cell (p := ⟨w.heap.size, 4, none⟩) (by first | omega | (simp; done) | (simp; omega))).trans hHeld.2.2.2.2
  have G0 : w.heap.size < V0.heap.size := (by have := B0.size; (try simp at this); omega)
  have L0 : w.heap.size ≤ V0.heap.size := (by have := B0.size; (try simp at this); omega)
  have D0 : Below w.heap.size w V0 := (by repeat (first | assumption | exact Below.refl _ _ | (refine Below.trans ?_ (B0.mono (by first | omega | (simp; done) | (simp; omega)))) | (refine Below.trans ?_ (d0.mono (by first | omega | (simp; done) | (simp; omega)))) | (refine Below.setCell ?_ (by first | omega | (simp; done) | (simp; omega)) _) | apply below_drewN | apply Below.drew | (refine Below.alloc ?_ (by first | omega | (simp; done) | (simp; omega)) _)))
  clear hHeld
  (refine hK.out _ _ ?_ (fun hHeld => ?_))
  · exact ⟨q00, q01, q02, q03, q04⟩
  clear hK K
  ((refine wpAnyH_take (i := 3) (oi := ⟨some 9, _, _, _, _, _⟩) (v := ?_) rfl (by kernel_rfl) (by kernel_rfl) (by kernel_rfl) (fun _ _ _ h => h) (Or.inl ⟨by rfl, ?_⟩) (by assumption) ?_; rotate_left 1; (focus (intro w hSw; (try dsimp only at hSw); go_simp <;> try (first | (with_reducible rfl) | (rw [if_neg (by omega)]) | (rw [if_pos (by omega)])))); try simp only [Act.put, List.setIfInBounds_toArray, List.set_cons_zero, List.set_cons_succ]); (refine wpAnyH_take (i := 4) (oi := ⟨some 10, _, _, _, _, _⟩) (v := ?_) rfl (by kernel_rfl) (by kernel_rfl) (by kernel_rfl) (fun _ _ _ h => h) (Or.inl ⟨by rfl, ?_⟩) (by assumption) ?_; rotate_left 1; (focus (intro w hSw; (try dsimp only at hSw); go_simp <;> try (first | (with_reducible rfl) | (rw [if_neg (by omega)]) | (rw [if_pos (by omega)])))); try simp only [Act.put, List.setIfInBounds_toArray, List.set_cons_zero, List.set_cons_succ]))
  (refine wpAnyH_ready (rs := [7]) (by kernel_rfl) (by simp) ?_; refine AllReadyH.cons rfl (fun K hK => ?_) AllReadyH.nil; go_simp)
  refine (wdimpl b t1 _ hI1 (pow_below HT.out D0) E1.out).mono ?_
  rintro e1v V1 ⟨rfl, B1⟩
  have q10 := (B1.cell (p := ⟨w.heap.size, 0, none⟩) (by first | omega | (simp; done) | (simp; omega))).trans hHeld.1
  have q11 := (B1.cell (p := ⟨w.heap.size, 1, none⟩) (by first | omega | (simp; done) | (simp; omega))).trans hHeld.2.1
  have q12 := (B1.cell (p := ⟨w.heap.size, 2, none⟩) (by first | omega | (simp; done) | (simp; omega))).trans hHeld.2.2.1
  have q13 := (B1.cell (p := ⟨w.heap.size, 3, none⟩) (by first | omega | (simp; done) | (simp; omega))).trans hHeld.2.2.2.1
  have q14 := (B1.cell (p := ⟨w.heap.size, 4, none⟩) (by first | omega | (simp; done) | (simp; omega))).trans hHeld.2.2.2.2
  have G1 : w.heap.size < V1.heap.size := (by have := B1.size; (try simp at this); omega)
  have L1 : w.heap.size ≤ V1.heap.size := (by have := B1.size; (try simp at this); omega)
  have D1 : Below w.heap.size w V1 := D0.trans (B1.mono (by omega))
  clear hHeld
  (refine hK.out _ _ ?_ (fun hHeld => ?_))
  · exact ⟨q10, q11, q12, q13, q14⟩
  clear hK K
  ((refine wpAnyH_take (i := 8) (oi := ⟨some 14, _, _, _, _, _⟩) (v := ?_) rfl (by kernel_rfl) (by kernel_rfl) (by kernel_rfl) (fun _ _ _ h => h) (Or.inl ⟨by rfl, ?_⟩) (by assumption) ?_; rotate_left 1; (focus (intro w hSw; (try dsimp only at hSw); go_simp <;> try (first | (with_reducible rfl) | (rw [if_neg (by omega)]) | (rw [if_pos (by omega)])))); try simp only [Act.put, List.setIfInBounds_toArray, List.set_cons_zero, List.set_cons_succ]); (refine wpAnyH_take (i := 9) (oi := ⟨some 15, _, _, _, _, _⟩) (v := ?_) rfl (by kernel_rfl) (by kernel_rfl) (by kernel_rfl) (fun _ _ _ h => h) (Or.inl ⟨by rfl, ?_⟩) (by assumption) ?_; rotate_left 1; (focus (intro w hSw; (try dsimp only at hSw); go_simp <;> try (first | (with_reducible rfl) | (rw [if_neg (by omega)]) | (rw [if_pos (by omega)])))); try simp only [Act.put, List.setIfInBounds_toArray, List.set_cons_zero, List.set_cons_succ]))
  (refine wpAnyH_ready (rs := [12]) (by kernel_rfl) (by simp) ?_; refine AllReadyH.cons rfl (fun K hK => ?_) AllReadyH.nil; go_simp)
  refine (wdimpl c t2 _ hI2 (pow_below HT.out D1) E2.out).mono ?_
  rintro e2v V2 ⟨rfl, B2⟩
  have q20 := (B2.cell (p := ⟨w.heap.size, 0, none⟩) (by first | omega | (simp; done) | (simp; omega))).trans hHeld.1
  have q21 := (B2.cell (p := ⟨w.heap.size, 1, none⟩) (by first | omega | (simp; done) | (simp; omega))).trans hHeld.2.1
  have q22 := (B2.cell (p := ⟨w.heap.size, 2, none⟩) (by first | omega | (simp; done) | (simp; omega))).trans hHeld.2.2.1
  have q23 := (B2.cell (p := ⟨w.heap.size, 3, none⟩) (by first | omega | (simp; done) | (simp; omega))).trans hHeld.2.2.2.1
  have q24 := (B2.cell (p := ⟨w.heap.size, 4, none⟩) (by first | omega | (simp; done) | (simp; omega))).trans hHeld.2.2.2.2
  have G2 : w.heap.size < V2.heap.size := (by have := B2.size; (try simp at this); omega)
  have L2 : w.heap.size ≤ V2.heap.size := (by have := B2.size; (try simp at this); omega)
  have D2 : Below w.heap.size w V2 := D1.trans (B2.mono (by omega))
  clear hHeld
  (refine hK.out _ _ ?_ (fun hHeld => ?_))
  · exact ⟨q20, q21, q22, q23, q24⟩
  clear hK K
  ((refine wpAnyH_take (i := 13) (oi := ⟨some 19, _, _, _, _, _⟩) (v := ?_) rfl (by kernel_rfl) (by kernel_rfl) (by kernel_rfl) (fun _ _ _ h => h) (Or.inl ⟨by rfl, ?_⟩) (by assumption) ?_; rotate_left 1; (focus (intro w hSw; (try dsimp only at hSw); go_simp <;> try (first | (with_reducible rfl) | (rw [if_neg (by omega)]) | (rw [if_pos (by omega)])))); try simp only [Act.put, List.setIfInBounds_toArray, List.set_cons_zero, List.set_cons_succ]); (refine wpAnyH_take (i := 14) (oi := ⟨some 20, _, _, _, _, _⟩) (v := ?_) rfl (by kernel_rfl) (by kernel_rfl) (by kernel_rfl) (fun _ _ _ h => h) (Or.inl ⟨by rfl, ?_⟩) (by assumption) ?_; rotate_left 1; (focus (intro w hSw; (try dsimp only at hSw); go_simp <;> try (first | (with_reducible rfl) | (rw [if_neg (by omega)]) | (rw [if_pos (by omega)])))); try simp only [Act.put, List.setIfInBounds_toArray, List.set_cons_zero, List.set_cons_succ]))
  (refine wpAnyH_ready (rs := [17]) (by kernel_rfl) (by simp) ?_; refine AllReadyH.cons rfl (fun K hK => ?_) AllReadyH.nil; go_simp)
  refine (wdimpl d t3 _ hI3 (pow_below HT.out D2) E3.out).mono ?_
  rintro e3v V3 ⟨rfl, B3⟩
  have q30 := (B3.cell (p := ⟨w.heap.size, 0, none⟩) (by first | omega | (simp; done) | (simp; omega))).trans hHeld.1
  have q31 := (B3.cell (p := ⟨w.heap.size, 1, none⟩) (by first | omega | (simp; done) | (simp; omega))).trans hHeld.2.1
  have q32 := (B3.cell (p := ⟨w.heap.size, 2, none⟩) (by first | omega | (simp; done) | (simp; omega))).trans hHeld.2.2.1
  have q33 := (B3.cell (p := ⟨w.heap.size, 3, none⟩) (by first | omega | (simp; done) | (simp; omega))).trans hHeld.2.2.2.1
  have q34 := (B3.cell (p := ⟨w.heap.size, 4, none⟩) (by first | omega | (simp; done) | (simp; omega))).trans hHeld.2.2.2.2
  have G3 : w.heap.size < V3.heap.size := (by have := B3.size; (try simp at this); omega)
  have L3 : w.heap.size ≤ V3.heap.size := (by have := B3.size; (try simp at this); omega)
  have D3 : Below w.heap.size w V3 := D2.trans (B3.mono (by omega))
  clear hHeld
  (refine hK.out _ _ ?_ (fun hHeld => ?_))
  · exact ⟨q30, q31, q32, q33, q34⟩
  clear hK K
  ((refine wpAnyH_take (i := 18) (oi := ⟨some 24, _, _, _, _, _⟩) (v := ?_) rfl (by kernel_rfl) (by kernel_rfl) (by kernel_rfl) (fun _ _ _ h => h) (Or.inl ⟨by rfl, ?_⟩) (by assumption) ?_; rotate_left 1; (focus (intro w hSw; (try dsimp only at hSw); go_simp <;> try (first | (with_reducible rfl) | (rw [if_neg (by omega)]) | (rw [if_pos (by omega)])))); try simp only [Act.put, List.setIfInBounds_toArray, List.set_cons_zero, List.set_cons_succ]); (refine wpAnyH_take (i := 19) (oi := ⟨some 25, _, _, _, _, _⟩) (v := ?_) rfl (by kernel_rfl) (by kernel_rfl) (by kernel_rfl) (fun _ _ _ h => h) (Or.inl ⟨by rfl, ?_⟩) (by assumption) ?_; rotate_left 1; (focus (intro w hSw; (try dsimp only at hSw); go_simp <;> try (first | (with_reducible rfl) | (rw [if_neg (by omega)]) | (rw [if_pos (by omega)])))); try simp only [Act.put, List.setIfInBounds_toArray, List.set_cons_zero, List.set_cons_succ]))
  (refine wpAnyH_ready (rs := [22]) (by kernel_rfl) (by simp) ?_; refine AllReadyH.cons rfl (fun K hK => ?_) AllReadyH.nil; go_simp)
  refine (wdimpl e t4 _ hI4 (pow_below HT.out D3) E4.out).mono ?_
  rintro e4v V4 ⟨rfl, B4⟩
  have q40 := (B4.cell (p := ⟨w.heap.size, 0, none⟩) (by first | omega | (simp; done) | (simp; omega))).trans hHeld.1
  have q41 := (B4.cell (p := ⟨w.heap.size, 1, none⟩) (by first | omega | (simp; done) | (simp; omega))).trans hHeld.2.1
  have q42 := (B4.cell (p := ⟨w.heap.size, 2, none⟩) (by first | omega | (simp; done) | (simp; omega))).trans hHeld.2.2.1
  have q43 := (B4.cell (p := ⟨w.heap.size, 3, none⟩) (by first | omega | (simp; done) | (simp; omega))).trans hHeld.2.2.2.1
  have q44 := (B4.cell (p := ⟨w.heap.size, 4, none⟩) (by first | omega | (simp; done) | (simp; omega))).trans hHeld.2.2.2.2
  have G4 : w.heap.size < V4.heap.size := (by have := B4.size; (try simp at this); omega)
  have L4 : w.heap.size ≤ V4.heap.size := (by have := B4.size; (try simp at this); omega)
  have D4 : Below w.heap.size w V4 := D3.trans (B4.mono (by omega))
  clear hHeld
  (refine hK.out _ _ ?_ (fun hHeld => ?_))
  · exact ⟨q40, q41, q42, q43, q44⟩
  clear hK K
  ((refine wpAnyH_take (i := 23) (oi := ⟨some 29, _, _, _, _, _⟩) (v := ?_) rfl (by kernel_rfl) (by kernel_rfl) (by kernel_rfl) (fun _ _ _ h => h) (Or.inl ⟨by rfl, ?_⟩) (by assumption) ?_; rotate_left 1; (focus (intro w hSw; (try dsimp only at hSw); go_simp <;> try (first | (with_reducible rfl) | (rw [if_neg (by omega)]) | (rw [if_pos (by omega)])))); try simp only [Act.put, List.setIfInBounds_toArray, List.set_cons_zero, List.set_cons_succ]); (refine wpAnyH_take (i := 24) (oi := ⟨some 2, _, _, _, _, _⟩) (v := ?_) rfl (by kernel_rfl) (by kernel_rfl) (by kernel_rfl) (fun _ _ _ h => h) (Or.inl ⟨by rfl, ?_⟩) (by assumption) ?_; rotate_left 1; (focus (intro w hSw; (try dsimp only at hSw); go_simp <;> try (first | (with_reducible rfl) | (rw [if_neg (by omega)]) | (rw [if_pos (by omega)])))); try simp only [Act.put, List.setIfInBounds_toArray, List.set_cons_zero, List.set_cons_succ]))
  refine wpAnyH_done (by kernel_rfl) ?_ _
  go_wp2
  go_ret
  exact ⟨ret_str HW.out.symm, D4⟩


end Go.Proofs.YtfpfmfhhcgafcaaDoor
