/- The text of a mill: of the model and of the program. -/
import Derived.Test.YticbnahndidplaaDoorMilC
import Derived.Test.YticbnahndidplaaDoorDecI
import Derived.Lib.ItoaLen
import Derived.Deep.RegionHeld3
namespace Go.Proofs.YticbnahndidplaaDoor
open Go.RowKit

def mD (n : Int) : ByteArray := ⟨(Lib.itoa n).toArray⟩
theorem mD_size {n : Int} (h : I64 n) : (mD n).size ≤ 21 := Lib.itoa_length_le n h.1 h.2
def mT (a b c d : Int) : ByteArray := (⟨#[108, 105, 102, 116, 32]⟩ : ByteArray) ++ mD a ++ ⟨#[32, 114, 97, 116, 101, 32]⟩ ++ mD b ++ ⟨#[32, 119, 105, 110, 100, 32]⟩ ++ mD c ++ ⟨#[45]⟩ ++ mD d
theorem mdspec (n : Int) (t : ByteArray) (w : World) (hn : I64 n) (e : t = mD n) :
    Calls Tryd.prog 64 #[.int .i64 n] w fun e w' => e = .returned (.string t) ∧ Below w.heap.size w w' := by
  subst e
  exact dec_spec n w hn

theorem mdimpl (n : Int) (t : ByteArray) (w : World) (hn : I64 n) (ht : PowTab w) (e : t = mD n) :
    Calls Tryd.prog 67 #[.int .i64 n] w fun e w' => e = .returned (.string t) ∧ Below w.heap.size w w' := by
  subst e
  exact dec_impl n w hn ht

set_option maxRecDepth 100000 in
set_option maxHeartbeats 1600000 in
theorem mtimpl (a b c d : Int) (w : World) (hpow : PowTab w) (hg : mlOk a b c d) (t : ByteArray) (ht : t = mT a b c d) :
    Calls Tryd.prog 54 #[.agg #[.int .i64 a, .int .i64 b, .int .i64 c, .int .i64 d]] w fun e w' => e = .returned (.string t) ∧ Below w.heap.size w w' := by
  have HV := Lib.hid (show true = decide (mlOk a b c d) from (decide_eq_true hg).symm)
  obtain ⟨g1, g2, g3, g4⟩ := hg
  have hI0 : I64 a := ⟨by omega, by omega⟩
  have hI1 : I64 b := ⟨by omega, by omega⟩
  have hI2 : I64 c := ⟨by omega, by omega⟩
  have hI3 : I64 d := ⟨by omega, by omega⟩
  obtain ⟨t0, ht0⟩ : ∃ t, t = mD a := ⟨_, rfl⟩
  have z0 : t0.size ≤ 21 := by rw [ht0]; exact mD_size hI0
  have E0 := Lib.hid ht0
  obtain ⟨t1, ht1⟩ : ∃ t, t = mD b := ⟨_, rfl⟩
  have z1 : t1.size ≤ 21 := by rw [ht1]; exact mD_size hI1
  have E1 := Lib.hid ht1
  obtain ⟨t2, ht2⟩ : ∃ t, t = mD c := ⟨_, rfl⟩
  have z2 : t2.size ≤ 21 := by rw [ht2]; exact mD_size hI2
  have E2 := Lib.hid ht2
  obtain ⟨t3, ht3⟩ : ∃ t, t = mD d := ⟨_, rfl⟩
  have z3 : t3.size ≤ 21 := by rw [ht3]; exact mD_size hI3
  have E3 := Lib.hid ht3
  have HT := Lib.hid hpow
  have HW := Lib.hid (show t = (⟨#[108, 105, 102, 116, 32]⟩ : ByteArray) ++ t0 ++ ⟨#[32, 114, 97, 116, 101, 32]⟩ ++ t1 ++ ⟨#[32, 119, 105, 110, 100, 32]⟩ ++ t2 ++ ⟨#[45]⟩ ++ t3 by rw [ht, ht0, ht1, ht2, ht3]; rfl)
  clear ht ht0 ht1 ht2 ht3 g1 g2 g3 g4 hpow
  have y1 : ((⟨#[108, 105, 102, 116, 32]⟩ : ByteArray) ++ t0).size = 5 + t0.size := by rw [ByteArray.size_append]; rfl
  have y2 : ((⟨#[108, 105, 102, 116, 32]⟩ : ByteArray) ++ t0 ++ ⟨#[32, 114, 97, 116, 101, 32]⟩).size = 5 + t0.size + 6 := by rw [ByteArray.size_append, y1]; rfl
  have y3 : ((⟨#[108, 105, 102, 116, 32]⟩ : ByteArray) ++ t0 ++ ⟨#[32, 114, 97, 116, 101, 32]⟩ ++ t1).size = 5 + t0.size + 6 + t1.size := by rw [ByteArray.size_append, y2]
  have y4 : ((⟨#[108, 105, 102, 116, 32]⟩ : ByteArray) ++ t0 ++ ⟨#[32, 114, 97, 116, 101, 32]⟩ ++ t1 ++ ⟨#[32, 119, 105, 110, 100, 32]⟩).size = 5 + t0.size + 6 + t1.size + 6 := by rw [ByteArray.size_append, y3]; rfl
  have y5 : ((⟨#[108, 105, 102, 116, 32]⟩ : ByteArray) ++ t0 ++ ⟨#[32, 114, 97, 116, 101, 32]⟩ ++ t1 ++ ⟨#[32, 119, 105, 110, 100, 32]⟩ ++ t2).size = 5 + t0.size + 6 + t1.size + 6 + t2.size := by rw [ByteArray.size_append, y4]
  have y6 : ((⟨#[108, 105, 102, 116, 32]⟩ : ByteArray) ++ t0 ++ ⟨#[32, 114, 97, 116, 101, 32]⟩ ++ t1 ++ ⟨#[32, 119, 105, 110, 100, 32]⟩ ++ t2 ++ ⟨#[45]⟩).size = 5 + t0.size + 6 + t1.size + 6 + t2.size + 1 := by rw [ByteArray.size_append, y5]; rfl
  have y7 : ((⟨#[108, 105, 102, 116, 32]⟩ : ByteArray) ++ t0 ++ ⟨#[32, 114, 97, 116, 101, 32]⟩ ++ t1 ++ ⟨#[32, 119, 105, 110, 100, 32]⟩ ++ t2 ++ ⟨#[45]⟩ ++ t3).size = 5 + t0.size + 6 + t1.size + 6 + t2.size + 1 + t3.size := by rw [ByteArray.size_append, y6]
  go_enter Tryd.func54, Tryd.ntmps54
  go_wp2_with (go_at_call 80; refine (mlI_any _ _ _ _ _ _ HV.out).mono ?_; rintro e0 W0 ⟨rfl, b0⟩; obtain ⟨k0, f0⟩ := bcell b0; have x0 : W0.cell? ⟨w.heap.size, 0, none⟩ = some (.int .i64 a) := (by rw [k0 _ _ (by first | omega | (simp; done) | (simp; omega))]; first | (simp; done) | go_simp); have xf0 : W0.frozen? ⟨w.heap.size, 0, none⟩ = false := (by rw [f0 _ _ (by first | omega | (simp; done) | (simp; omega))]; first | (simp; done) | go_simp); have x1 : W0.cell? ⟨w.heap.size, 1, none⟩ = some (.int .i64 b) := (by rw [k0 _ _ (by first | omega | (simp; done) | (simp; omega))]; first | (simp; done) | go_simp); have xf1 : W0.frozen? ⟨w.heap.size, 1, none⟩ = false := (by rw [f0 _ _ (by first | omega | (simp; done) | (simp; omega))]; first | (simp; done) | go_simp); have x2 : W0.cell? ⟨w.heap.size, 2, none⟩ = some (.int .i64 c) := (by rw [k0 _ _ (by first | omega | (simp; done) | (simp; omega))]; first | (simp; done) | go_simp); have xf2 : W0.frozen? ⟨w.heap.size, 2, none⟩ = false := (by rw [f0 _ _ (by first | omega | (simp; done) | (simp; omega))]; first | (simp; done) | go_simp); have x3 : W0.cell? ⟨w.heap.size, 3, none⟩ = some (.int .i64 d) := (by rw [k0 _ _ (by first | omega | (simp; done) | (simp; omega))]; first | (simp; done) | go_simp); have xf3 : W0.frozen? ⟨w.heap.size, 3, none⟩ = false := (by rw [f0 _ _ (by first | omega | (simp; done) | (simp; omega))]; first | (simp; done) | go_simp); have d0 : Below w.heap.size w W0 := (by repeat (first | assumption | exact Below.refl _ _ | (refine Below.trans ?_ (b0.mono (by first | omega | (simp; done) | (simp; omega)))) | (refine Below.setCell ?_ (by first | omega | (simp; done) | (simp; omega)) _) | apply below_drewN | apply Below.drew | (refine Below.alloc ?_ (by first | omega | (simp; done) | (simp; omega)) _))); have s0 : w.heap.size < W0.heap.size := (by have := b0.size; (try simp at this); omega); clear k0 f0 b0)
  refine wp_region_held_drew (S := fun w' => w'.cell? ⟨w.heap.size, 0, none⟩ = some (.int .i64 a) ∧ w'.cell? ⟨w.heap.size, 1, none⟩ = some (.int .i64 b) ∧ w'.cell? ⟨w.heap.size, 2, none⟩ = some (.int .i64 c) ∧ w'.cell? ⟨w.heap.size, 3, none⟩ = some (.int .i64 d)) (by kernel_rfl) ⟨x0, x1, x2, x3⟩ (fun hHeld => ?_)
  ((refine wpAnyH_take (i := 0) (oi := ⟨some 6, _, _, _, _, _⟩) (v := ?_) rfl (by kernel_rfl) (by kernel_rfl) (by kernel_rfl) (fun _ _ _ h => h) (Or.inl ⟨by rfl, ?_⟩) (by assumption) ?_; rotate_left 1; (focus (intro w hSw; (try dsimp only at hSw); go_simp <;> try (first | (with_reducible rfl) | (rw [if_neg (by omega)]) | (rw [if_pos (by omega)])))); try simp only [Act.put, List.setIfInBounds_toArray, List.set_cons_zero, List.set_cons_succ]); (refine wpAnyH_take (i := 1) (oi := ⟨some 7, _, _, _, _, _⟩) (v := ?_) rfl (by kernel_rfl) (by kernel_rfl) (by kernel_rfl) (fun _ _ _ h => h) (Or.inl ⟨by rfl, ?_⟩) (by assumption) ?_; rotate_left 1; (focus (intro w hSw; (try dsimp only at hSw); go_simp <;> try (first | (with_reducible rfl) | (rw [if_neg (by omega)]) | (rw [if_pos (by omega)])))); try simp only [Act.put, List.setIfInBounds_toArray, List.set_cons_zero, List.set_cons_succ]); (refine wpAnyH_take (i := 5) (oi := ⟨some 11, _, _, _, _, _⟩) (v := ?_) rfl (by kernel_rfl) (by kernel_rfl) (by kernel_rfl) (fun _ _ _ h => h) (Or.inl ⟨by rfl, ?_⟩) (by assumption) ?_; rotate_left 1; (focus (intro w hSw; (try dsimp only at hSw); go_simp <;> try (first | (with_reducible rfl) | (rw [if_neg (by omega)]) | (rw [if_pos (by omega)])))); try simp only [Act.put, List.setIfInBounds_toArray, List.set_cons_zero, List.set_cons_succ]); (refine wpAnyH_take (i := 6) (oi := ⟨some 12, _, _, _, _, _⟩) (v := ?_) rfl (by kernel_rfl) (by kernel_rfl) (by kernel_rfl) (fun _ _ _ h => h) (Or.inl ⟨by rfl, ?_⟩) (by assumption) ?_; rotate_left 1; (focus (intro w hSw; (try dsimp only at hSw); go_simp <;> try (first | (with_reducible rfl) | (rw [if_neg (by omega)]) | (rw [if_pos (by omega)])))); try simp only [Act.put, List.setIfInBounds_toArray, List.set_cons_zero, List.set_cons_succ]); (refine wpAnyH_take (i := 10) (oi := ⟨some 16, _, _, _, _, _⟩) (v := ?_) rfl (by kernel_rfl) (by kernel_rfl) (by kernel_rfl) (fun _ _ _ h => h) (Or.inl ⟨by rfl, ?_⟩) (by assumption) ?_; rotate_left 1; (focus (intro w hSw; (try dsimp only at hSw); go_simp <;> try (first | (with_reducible rfl) | (rw [if_neg (by omega)]) | (rw [if_pos (by omega)])))); try simp only [Act.put, List.setIfInBounds_toArray, List.set_cons_zero, List.set_cons_succ]); (refine wpAnyH_take (i := 11) (oi := ⟨some 17, _, _, _, _, _⟩) (v := ?_) rfl (by kernel_rfl) (by kernel_rfl) (by kernel_rfl) (fun _ _ _ h => h) (Or.inl ⟨by rfl, ?_⟩) (by assumption) ?_; rotate_left 1; (focus (intro w hSw; (try dsimp only at hSw); go_simp <;> try (first | (with_reducible rfl) | (rw [if_neg (by omega)]) | (rw [if_pos (by omega)])))); try simp only [Act.put, List.setIfInBounds_toArray, List.set_cons_zero, List.set_cons_succ]); (refine wpAnyH_take (i := 15) (oi := ⟨some 21, _, _, _, _, _⟩) (v := ?_) rfl (by kernel_rfl) (by kernel_rfl) (by kernel_rfl) (fun _ _ _ h => h) (Or.inl ⟨by rfl, ?_⟩) (by assumption) ?_; rotate_left 1; (focus (intro w hSw; (try dsimp only at hSw); go_simp <;> try (first | (with_reducible rfl) | (rw [if_neg (by omega)]) | (rw [if_pos (by omega)])))); try simp only [Act.put, List.setIfInBounds_toArray, List.set_cons_zero, List.set_cons_succ]); (refine wpAnyH_take (i := 16) (oi := ⟨some 22, _, _, _, _, _⟩) (v := ?_) rfl (by kernel_rfl) (by kernel_rfl) (by kernel_rfl) (fun _ _ _ h => h) (Or.inl ⟨by rfl, ?_⟩) (by assumption) ?_; rotate_left 1; (focus (intro w hSw; (try dsimp only at hSw); go_simp <;> try (first | (with_reducible rfl) | (rw [if_neg (by omega)]) | (rw [if_pos (by omega)])))); try simp only [Act.put, List.setIfInBounds_toArray, List.set_cons_zero, List.set_cons_succ]))
  (refine wpAnyH_ready (rs := [2]) (by kernel_rfl) (by simp) ?_; refine AllReadyH.cons rfl (fun K hK => ?_) AllReadyH.nil; go_simp)
  refine (mdimpl a t0 _ hI0 (pow_below HT.out (by repeat (first | assumption | exact Below.refl _ _ | (refine Below.setCell ?_ (by first | omega | (simp; done) | (simp; omega)) _) | apply below_drewN | apply Below.drew | (refine Below.alloc ?_ (by first | omega | (simp; done) | (simp; omega)) _)))) E0.out).mono ?_
  rintro e0v V0 ⟨rfl, B0⟩
  have q00 := (B0.cell (p := ⟨w.heap.size, 0, none⟩) (by first | omega | (simp; done) | (simp; omega))).trans hHeld.1
  have q01 := (B0.cell (p := ⟨w.heap.size, 1, none⟩) (by first | omega | (simp; done) | (simp; omega))).trans hHeld.2.1
  have q02 := (B0.cell (p := ⟨w.heap.size, 2, none⟩) (by first | omega | (simp; done) | (simp; omega))).trans hHeld.2.2.1
  have q03 := (B0.cell (p := ⟨w.heap.size, 3, none⟩) (by first | omega | (simp; done) | (simp; omega))).trans hHeld.2.2.2
  have G0 : w.heap.size < V0.heap.size := (by have := B0.size; (try simp at this); omega)
  have D0 : Below w.heap.size w V0 := (by repeat (first | assumption | exact Below.refl _ _ | (refine Below.trans ?_ (B0.mono (by first | omega | (simp; done) | (simp; omega)))) | (refine Below.trans ?_ (d0.mono (by first | omega | (simp; done) | (simp; omega)))) | (refine Below.setCell ?_ (by first | omega | (simp; done) | (simp; omega)) _) | apply below_drewN | apply Below.drew | (refine Below.alloc ?_ (by first | omega | (simp; done) | (simp; omega)) _)))
  clear hHeld
  (refine hK.out _ _ ?_ (fun hHeld => ?_))
  · exact ⟨q00, q01, q02, q03⟩
  ((refine wpAnyH_take (i := 3) (oi := ⟨some 9, _, _, _, _, _⟩) (v := ?_) rfl (by kernel_rfl) (by kernel_rfl) (by kernel_rfl) (fun _ _ _ h => h) (Or.inl ⟨by rfl, ?_⟩) (by assumption) ?_; rotate_left 1; (focus (intro w hSw; (try dsimp only at hSw); go_simp <;> try (first | (with_reducible rfl) | (rw [if_neg (by omega)]) | (rw [if_pos (by omega)])))); try simp only [Act.put, List.setIfInBounds_toArray, List.set_cons_zero, List.set_cons_succ]); (refine wpAnyH_take (i := 4) (oi := ⟨some 10, _, _, _, _, _⟩) (v := ?_) rfl (by kernel_rfl) (by kernel_rfl) (by kernel_rfl) (fun _ _ _ h => h) (Or.inl ⟨by rfl, ?_⟩) (by assumption) ?_; rotate_left 1; (focus (intro w hSw; (try dsimp only at hSw); go_simp <;> try (first | (with_reducible rfl) | (rw [if_neg (by omega)]) | (rw [if_pos (by omega)])))); try simp only [Act.put, List.setIfInBounds_toArray, List.set_cons_zero, List.set_cons_succ]))
  (refine wpAnyH_ready (rs := [7]) (by kernel_rfl) (by simp) ?_; refine AllReadyH.cons rfl (fun K hK => ?_) AllReadyH.nil; go_simp)
  refine (mdimpl b t1 _ hI1 (pow_below HT.out D0) E1.out).mono ?_
  rintro e1v V1 ⟨rfl, B1⟩
  have q10 := (B1.cell (p := ⟨w.heap.size, 0, none⟩) (by first | omega | (simp; done) | (simp; omega))).trans hHeld.1
  have q11 := (B1.cell (p := ⟨w.heap.size, 1, none⟩) (by first | omega | (simp; done) | (simp; omega))).trans hHeld.2.1
  have q12 := (B1.cell (p := ⟨w.heap.size, 2, none⟩) (by first | omega | (simp; done) | (simp; omega))).trans hHeld.2.2.1
  have q13 := (B1.cell (p := ⟨w.heap.size, 3, none⟩) (by first | omega | (simp; done) | (simp; omega))).trans hHeld.2.2.2
  have G1 : w.heap.size < V1.heap.size := (by have := B1.size; (try simp at this); omega)
  have D1 : Below w.heap.size w V1 := D0.trans (B1.mono (by omega))
  clear hHeld
  (refine hK.out _ _ ?_ (fun hHeld => ?_))
  · exact ⟨q10, q11, q12, q13⟩
  ((refine wpAnyH_take (i := 8) (oi := ⟨some 14, _, _, _, _, _⟩) (v := ?_) rfl (by kernel_rfl) (by kernel_rfl) (by kernel_rfl) (fun _ _ _ h => h) (Or.inl ⟨by rfl, ?_⟩) (by assumption) ?_; rotate_left 1; (focus (intro w hSw; (try dsimp only at hSw); go_simp <;> try (first | (with_reducible rfl) | (rw [if_neg (by omega)]) | (rw [if_pos (by omega)])))); try simp only [Act.put, List.setIfInBounds_toArray, List.set_cons_zero, List.set_cons_succ]); (refine wpAnyH_take (i := 9) (oi := ⟨some 15, _, _, _, _, _⟩) (v := ?_) rfl (by kernel_rfl) (by kernel_rfl) (by kernel_rfl) (fun _ _ _ h => h) (Or.inl ⟨by rfl, ?_⟩) (by assumption) ?_; rotate_left 1; (focus (intro w hSw; (try dsimp only at hSw); go_simp <;> try (first | (with_reducible rfl) | (rw [if_neg (by omega)]) | (rw [if_pos (by omega)])))); try simp only [Act.put, List.setIfInBounds_toArray, List.set_cons_zero, List.set_cons_succ]))
  (refine wpAnyH_ready (rs := [12]) (by kernel_rfl) (by simp) ?_; refine AllReadyH.cons rfl (fun K hK => ?_) AllReadyH.nil; go_simp)
  refine (mdimpl c t2 _ hI2 (pow_below HT.out D1) E2.out).mono ?_
  rintro e2v V2 ⟨rfl, B2⟩
  have q20 := (B2.cell (p := ⟨w.heap.size, 0, none⟩) (by first | omega | (simp; done) | (simp; omega))).trans hHeld.1
  have q21 := (B2.cell (p := ⟨w.heap.size, 1, none⟩) (by first | omega | (simp; done) | (simp; omega))).trans hHeld.2.1
  have q22 := (B2.cell (p := ⟨w.heap.size, 2, none⟩) (by first | omega | (simp; done) | (simp; omega))).trans hHeld.2.2.1
  have q23 := (B2.cell (p := ⟨w.heap.size, 3, none⟩) (by first | omega | (simp; done) | (simp; omega))).trans hHeld.2.2.2
  have G2 : w.heap.size < V2.heap.size := (by have := B2.size; (try simp at this); omega)
  have D2 : Below w.heap.size w V2 := D1.trans (B2.mono (by omega))
  clear hHeld
  (refine hK.out _ _ ?_ (fun hHeld => ?_))
  · exact ⟨q20, q21, q22, q23⟩
  ((refine wpAnyH_take (i := 13) (oi := ⟨some 19, _, _, _, _, _⟩) (v := ?_) rfl (by kernel_rfl) (by kernel_rfl) (by kernel_rfl) (fun _ _ _ h => h) (Or.inl ⟨by rfl, ?_⟩) (by assumption) ?_; rotate_left 1; (focus (intro w hSw; (try dsimp only at hSw); go_simp <;> try (first | (with_reducible rfl) | (rw [if_neg (by omega)]) | (rw [if_pos (by omega)])))); try simp only [Act.put, List.setIfInBounds_toArray, List.set_cons_zero, List.set_cons_succ]); (refine wpAnyH_take (i := 14) (oi := ⟨some 20, _, _, _, _, _⟩) (v := ?_) rfl (by kernel_rfl) (by kernel_rfl) (by kernel_rfl) (fun _ _ _ h => h) (Or.inl ⟨by rfl, ?_⟩) (by assumption) ?_; rotate_left 1; (focus (intro w hSw; (try dsimp only at hSw); go_simp <;> try (first | (with_reducible rfl) | (rw [if_neg (by omega)]) | (rw [if_pos (by omega)])))); try simp only [Act.put, List.setIfInBounds_toArray, List.set_cons_zero, List.set_cons_succ]))
  (refine wpAnyH_ready (rs := [17]) (by kernel_rfl) (by simp) ?_; refine AllReadyH.cons rfl (fun K hK => ?_) AllReadyH.nil; go_simp)
  refine (mdimpl d t3 _ hI3 (pow_below HT.out D2) E3.out).mono ?_
  rintro e3v V3 ⟨rfl, B3⟩
  have q30 := (B3.cell (p := ⟨w.heap.size, 0, none⟩) (by first | omega | (simp; done) | (simp; omega))).trans hHeld.1
  have q31 := (B3.cell (p := ⟨w.heap.size, 1, none⟩) (by first | omega | (simp; done) | (simp; omega))).trans hHeld.2.1
  have q32 := (B3.cell (p := ⟨w.heap.size, 2, none⟩) (by first | omega | (simp; done) | (simp; omega))).trans hHeld.2.2.1
  have q33 := (B3.cell (p := ⟨w.heap.size, 3, none⟩) (by first | omega | (simp; done) | (simp; omega))).trans hHeld.2.2.2
  have G3 : w.heap.size < V3.heap.size := (by have := B3.size; (try simp at this); omega)
  have D3 : Below w.heap.size w V3 := D2.trans (B3.mono (by omega))
  clear hHeld
  (refine hK.out _ _ ?_ (fun hHeld => ?_))
  · exact ⟨q30, q31, q32, q33⟩
  ((refine wpAnyH_take (i := 18) (oi := ⟨some 24, _, _, _, _, _⟩) (v := ?_) rfl (by kernel_rfl) (by kernel_rfl) (by kernel_rfl) (fun _ _ _ h => h) (Or.inl ⟨by rfl, ?_⟩) (by assumption) ?_; rotate_left 1; (focus (intro w hSw; (try dsimp only at hSw); go_simp <;> try (first | (with_reducible rfl) | (rw [if_neg (by omega)]) | (rw [if_pos (by omega)])))); try simp only [Act.put, List.setIfInBounds_toArray, List.set_cons_zero, List.set_cons_succ]); (refine wpAnyH_take (i := 19) (oi := ⟨some 2, _, _, _, _, _⟩) (v := ?_) rfl (by kernel_rfl) (by kernel_rfl) (by kernel_rfl) (fun _ _ _ h => h) (Or.inl ⟨by rfl, ?_⟩) (by assumption) ?_; rotate_left 1; (focus (intro w hSw; (try dsimp only at hSw); go_simp <;> try (first | (with_reducible rfl) | (rw [if_neg (by omega)]) | (rw [if_pos (by omega)])))); try simp only [Act.put, List.setIfInBounds_toArray, List.set_cons_zero, List.set_cons_succ]))
  refine wpAnyH_done (by kernel_rfl) ?_ _
  go_wp2
  go_ret
  exact ⟨ret_str HW.out.symm, D3⟩


end Go.Proofs.YticbnahndidplaaDoor
