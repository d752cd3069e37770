/- The text of a record: of the model and of the program. -/
import Derived.Test.YticbnahndidplaaDoorBreC
import Derived.Test.YticbnahndidplaaDoorDecI
import Derived.Lib.ItoaLen
import Derived.Deep.RegionHeld3
namespace Go.Proofs.YticbnahndidplaaDoor
open Go.RowKit

def mD (n : Int) : ByteArray := ⟨(Lib.itoa n).toArray⟩
theorem mD_size {n : Int} (h : I64 n) : (mD n).size ≤ 21 := Lib.itoa_length_le n h.1 h.2
def btT (a : Int) (b : Int) (c : Int) : ByteArray := mD a ++ ⟨#[109, 32, 115, 105, 108, 108, 32]⟩ ++ mD b ++ ⟨#[32, 119, 97, 116, 101, 114, 32]⟩ ++ mD c
theorem mdspec (n : Int) (t : ByteArray) (w : World) (hn : I64 n) (e : t = mD n) :
    Calls Tryd.prog 64 #[.int .i64 n] w fun e w' => e = .returned (.string t) ∧ Below w.heap.size w w' := by
  subst e
  exact dec_spec n w hn

theorem mdimpl (n : Int) (t : ByteArray) (w : World) (hn : I64 n) (ht : PowTab w) (e : t = mD n) :
    Calls Tryd.prog 67 #[.int .i64 n] w fun e w' => e = .returned (.string t) ∧ Below w.heap.size w w' := by
  subst e
  exact dec_impl n w hn ht

set_option maxRecDepth 100000 in
set_option maxHeartbeats 1600000 in
theorem btimpl (a : Int) (b : Int) (c : Int) (w : World) (hpow : PowTab w) (hg : tlOk a b c) (t : ByteArray) (ht : t = btT a b c) :
    Calls Tryd.prog 57 #[.agg #[.int .i64 a, .int .i64 b, .int .i64 c]] w fun e w' => e = .returned (.string t) ∧ Below w.heap.size w w' := by
  have HV := Lib.hid (show true = decide (tlOk a b c) from (decide_eq_true hg).symm)
  have hg2 := hg
  unfold tlOk at hg2
  have hI0 : I64 a := ⟨by omega, by omega⟩
  have hI1 : I64 b := ⟨by omega, by omega⟩
  have hI2 : I64 c := ⟨by omega, by omega⟩
  obtain ⟨t0, ht0⟩ : ∃ t, t = mD a := ⟨_, rfl⟩
  have z0 : t0.size ≤ 21 := by rw [ht0]; exact mD_size hI0
  have E0 := Lib.hid ht0
  obtain ⟨t1, ht1⟩ : ∃ t, t = mD b := ⟨_, rfl⟩
  have z1 : t1.size ≤ 21 := by rw [ht1]; exact mD_size hI1
  have E1 := Lib.hid ht1
  obtain ⟨t2, ht2⟩ : ∃ t, t = mD c := ⟨_, rfl⟩
  have z2 : t2.size ≤ 21 := by rw [ht2]; exact mD_size hI2
  have E2 := Lib.hid ht2
  have HT := Lib.hid hpow
  have HW := Lib.hid (show t = t0 ++ ⟨#[109, 32, 115, 105, 108, 108, 32]⟩ ++ t1 ++ ⟨#[32, 119, 97, 116, 101, 114, 32]⟩ ++ t2 by rw [ht, ht0, ht1, ht2]; rfl)
  clear ht ht0 ht1 ht2 hg hg2 hpow
  have y1 : (t0 ++ ⟨#[109, 32, 115, 105, 108, 108, 32]⟩).size = t0.size + 7 := by rw [ByteArray.size_append]; rfl
  have y2 : (t0 ++ ⟨#[109, 32, 115, 105, 108, 108, 32]⟩ ++ t1).size = t0.size + 7 + t1.size := by rw [ByteArray.size_append, y1]
  have y3 : (t0 ++ ⟨#[109, 32, 115, 105, 108, 108, 32]⟩ ++ t1 ++ ⟨#[32, 119, 97, 116, 101, 114, 32]⟩).size = t0.size + 7 + t1.size + 7 := by rw [ByteArray.size_append, y2]; rfl
  have y4 : (t0 ++ ⟨#[109, 32, 115, 105, 108, 108, 32]⟩ ++ t1 ++ ⟨#[32, 119, 97, 116, 101, 114, 32]⟩ ++ t2).size = t0.size + 7 + t1.size + 7 + t2.size := by rw [ByteArray.size_append, y3]
  go_enter Tryd.func57, Tryd.ntmps57
  go_wp2_with (go_at_call 82; refine (tlI_any _ _ _ _ _ HV.out).mono ?_; rintro e0 W0 ⟨rfl, b0⟩; obtain ⟨k0, f0⟩ := bcell b0; have x0 : W0.cell? ⟨w.heap.size, 0, none⟩ = some (.int .i64 a) := (by rw [k0 _ _ (by first | omega | (simp; done) | (simp; omega))]; first | (simp; done) | go_simp); have xf0 : W0.frozen? ⟨w.heap.size, 0, none⟩ = false := (by rw [f0 _ _ (by first | omega | (simp; done) | (simp; omega))]; first | (simp; done) | go_simp); have x1 : W0.cell? ⟨w.heap.size, 1, none⟩ = some (.int .i64 b) := (by rw [k0 _ _ (by first | omega | (simp; done) | (simp; omega))]; first | (simp; done) | go_simp); have xf1 : W0.frozen? ⟨w.heap.size, 1, none⟩ = false := (by rw [f0 _ _ (by first | omega | (simp; done) | (simp; omega))]; first | (simp; done) | go_simp); have x2 : W0.cell? ⟨w.heap.size, 2, none⟩ = some (.int .i64 c) := (by rw [k0 _ _ (by first | omega | (simp; done) | (simp; omega))]; first | (simp; done) | go_simp); have xf2 : W0.frozen? ⟨w.heap.size, 2, none⟩ = false := (by rw [f0 _ _ (by first | omega | (simp; done) | (simp; omega))]; first | (simp; done) | go_simp); have d0 : Below w.heap.size w W0 := (by repeat (first | assumption | exact Below.refl _ _ | (refine Below.trans ?_ (b0.mono (by first | omega | (simp; done) | (simp; omega)))) | (refine Below.setCell ?_ (by first | omega | (simp; done) | (simp; omega)) _) | apply below_drewN | apply Below.drew | (refine Below.alloc ?_ (by first | omega | (simp; done) | (simp; omega)) _))); have s0 : w.heap.size < W0.heap.size := (by have := b0.size; (try simp at this); omega); clear k0 f0 b0)
  refine wp_region_held_drew (S := fun w' => w'.cell? ⟨w.heap.size, 0, none⟩ = some (.int .i64 a) ∧ w'.cell? ⟨w.heap.size, 1, none⟩ = some (.int .i64 b) ∧ w'.cell? ⟨w.heap.size, 2, none⟩ = some (.int .i64 c)) (by kernel_rfl) ⟨x0, x1, x2⟩ (fun hHeld => ?_)
  ((refine wpAnyH_take (i := 0) (oi := ⟨some 6, _, _, _, _, _⟩) (v := ?_) rfl (by kernel_rfl) (by kernel_rfl) (by kernel_rfl) (fun _ _ _ h => h) (Or.inl ⟨by rfl, ?_⟩) (by assumption) ?_; rotate_left 1; (focus (intro w hSw; (try dsimp only at hSw); go_simp <;> try (first | (with_reducible rfl) | (rw [if_neg (by omega)]) | (rw [if_pos (by omega)])))); try simp only [Act.put, List.setIfInBounds_toArray, List.set_cons_zero, List.set_cons_succ]); (refine wpAnyH_take (i := 1) (oi := ⟨some 7, _, _, _, _, _⟩) (v := ?_) rfl (by kernel_rfl) (by kernel_rfl) (by kernel_rfl) (fun _ _ _ h => h) (Or.inl ⟨by rfl, ?_⟩) (by assumption) ?_; rotate_left 1; (focus (intro w hSw; (try dsimp only at hSw); go_simp <;> try (first | (with_reducible rfl) | (rw [if_neg (by omega)]) | (rw [if_pos (by omega)])))); try simp only [Act.put, List.setIfInBounds_toArray, List.set_cons_zero, List.set_cons_succ]); (refine wpAnyH_take (i := 4) (oi := ⟨some 10, _, _, _, _, _⟩) (v := ?_) rfl (by kernel_rfl) (by kernel_rfl) (by kernel_rfl) (fun _ _ _ h => h) (Or.inl ⟨by rfl, ?_⟩) (by assumption) ?_; rotate_left 1; (focus (intro w hSw; (try dsimp only at hSw); go_simp <;> try (first | (with_reducible rfl) | (rw [if_neg (by omega)]) | (rw [if_pos (by omega)])))); try simp only [Act.put, List.setIfInBounds_toArray, List.set_cons_zero, List.set_cons_succ]); (refine wpAnyH_take (i := 5) (oi := ⟨some 11, _, _, _, _, _⟩) (v := ?_) rfl (by kernel_rfl) (by kernel_rfl) (by kernel_rfl) (fun _ _ _ h => h) (Or.inl ⟨by rfl, ?_⟩) (by assumption) ?_; rotate_left 1; (focus (intro w hSw; (try dsimp only at hSw); go_simp <;> try (first | (with_reducible rfl) | (rw [if_neg (by omega)]) | (rw [if_pos (by omega)])))); try simp only [Act.put, List.setIfInBounds_toArray, List.set_cons_zero, List.set_cons_succ]); (refine wpAnyH_take (i := 9) (oi := ⟨some 15, _, _, _, _, _⟩) (v := ?_) rfl (by kernel_rfl) (by kernel_rfl) (by kernel_rfl) (fun _ _ _ h => h) (Or.inl ⟨by rfl, ?_⟩) (by assumption) ?_; rotate_left 1; (focus (intro w hSw; (try dsimp only at hSw); go_simp <;> try (first | (with_reducible rfl) | (rw [if_neg (by omega)]) | (rw [if_pos (by omega)])))); try simp only [Act.put, List.setIfInBounds_toArray, List.set_cons_zero, List.set_cons_succ]); (refine wpAnyH_take (i := 10) (oi := ⟨some 16, _, _, _, _, _⟩) (v := ?_) rfl (by kernel_rfl) (by kernel_rfl) (by kernel_rfl) (fun _ _ _ h => h) (Or.inl ⟨by rfl, ?_⟩) (by assumption) ?_; rotate_left 1; (focus (intro w hSw; (try dsimp only at hSw); go_simp <;> try (first | (with_reducible rfl) | (rw [if_neg (by omega)]) | (rw [if_pos (by omega)])))); try simp only [Act.put, List.setIfInBounds_toArray, List.set_cons_zero, List.set_cons_succ]))
  (refine wpAnyH_ready (rs := [2]) (by kernel_rfl) (by simp) ?_; refine AllReadyH.cons rfl (fun K hK => ?_) AllReadyH.nil; go_simp)
  refine (mdimpl a t0 _ hI0 (pow_below HT.out (by repeat (first | assumption | exact Below.refl _ _ | (refine Below.setCell ?_ (by first | omega | (simp; done) | (simp; omega)) _) | apply below_drewN | apply Below.drew | (refine Below.alloc ?_ (by first | omega | (simp; done) | (simp; omega)) _)))) E0.out).mono ?_
  rintro e0v V0 ⟨rfl, B0⟩
  have q00 := (B0.cell (p := ⟨w.heap.size, 0, none⟩) (by first | omega | (simp; done) | (simp; omega))).trans hHeld.1
  have q01 := (B0.cell (p := ⟨w.heap.size, 1, none⟩) (by first | omega | (simp; done) | (simp; omega))).trans hHeld.2.1
  have q02 := (B0.cell (p := ⟨w.heap.size, 2, none⟩) (by first | omega | (simp; done) | (simp; omega))).trans hHeld.2.2
  have G0 : w.heap.size < V0.heap.size := (by have := B0.size; (try simp at this); omega)
  have D0 : Below w.heap.size w V0 := (by repeat (first | assumption | exact Below.refl _ _ | (refine Below.trans ?_ (B0.mono (by first | omega | (simp; done) | (simp; omega)))) | (refine Below.trans ?_ (d0.mono (by first | omega | (simp; done) | (simp; omega)))) | (refine Below.setCell ?_ (by first | omega | (simp; done) | (simp; omega)) _) | apply below_drewN | apply Below.drew | (refine Below.alloc ?_ (by first | omega | (simp; done) | (simp; omega)) _)))
  clear hHeld
  (refine hK.out _ _ ?_ (fun hHeld => ?_))
  · exact ⟨q00, q01, q02⟩
  ((refine wpAnyH_take (i := 3) (oi := ⟨some 9, _, _, _, _, _⟩) (v := ?_) rfl (by kernel_rfl) (by kernel_rfl) (by kernel_rfl) (fun _ _ _ h => h) (Or.inl ⟨by rfl, ?_⟩) (by assumption) ?_; rotate_left 1; (focus (intro w hSw; (try dsimp only at hSw); go_simp <;> try (first | (with_reducible rfl) | (rw [if_neg (by omega)]) | (rw [if_pos (by omega)])))); try simp only [Act.put, List.setIfInBounds_toArray, List.set_cons_zero, List.set_cons_succ]))
  (refine wpAnyH_ready (rs := [6]) (by kernel_rfl) (by simp) ?_; refine AllReadyH.cons rfl (fun K hK => ?_) AllReadyH.nil; go_simp)
  refine (mdimpl b t1 _ hI1 (pow_below HT.out D0) E1.out).mono ?_
  rintro e1v V1 ⟨rfl, B1⟩
  have q10 := (B1.cell (p := ⟨w.heap.size, 0, none⟩) (by first | omega | (simp; done) | (simp; omega))).trans hHeld.1
  have q11 := (B1.cell (p := ⟨w.heap.size, 1, none⟩) (by first | omega | (simp; done) | (simp; omega))).trans hHeld.2.1
  have q12 := (B1.cell (p := ⟨w.heap.size, 2, none⟩) (by first | omega | (simp; done) | (simp; omega))).trans hHeld.2.2
  have G1 : w.heap.size < V1.heap.size := (by have := B1.size; (try simp at this); omega)
  have D1 : Below w.heap.size w V1 := D0.trans (B1.mono (by omega))
  clear hHeld
  (refine hK.out _ _ ?_ (fun hHeld => ?_))
  · exact ⟨q10, q11, q12⟩
  ((refine wpAnyH_take (i := 7) (oi := ⟨some 13, _, _, _, _, _⟩) (v := ?_) rfl (by kernel_rfl) (by kernel_rfl) (by kernel_rfl) (fun _ _ _ h => h) (Or.inl ⟨by rfl, ?_⟩) (by assumption) ?_; rotate_left 1; (focus (intro w hSw; (try dsimp only at hSw); go_simp <;> try (first | (with_reducible rfl) | (rw [if_neg (by omega)]) | (rw [if_pos (by omega)])))); try simp only [Act.put, List.setIfInBounds_toArray, List.set_cons_zero, List.set_cons_succ]); (refine wpAnyH_take (i := 8) (oi := ⟨some 14, _, _, _, _, _⟩) (v := ?_) rfl (by kernel_rfl) (by kernel_rfl) (by kernel_rfl) (fun _ _ _ h => h) (Or.inl ⟨by rfl, ?_⟩) (by assumption) ?_; rotate_left 1; (focus (intro w hSw; (try dsimp only at hSw); go_simp <;> try (first | (with_reducible rfl) | (rw [if_neg (by omega)]) | (rw [if_pos (by omega)])))); try simp only [Act.put, List.setIfInBounds_toArray, List.set_cons_zero, List.set_cons_succ]))
  (refine wpAnyH_ready (rs := [11]) (by kernel_rfl) (by simp) ?_; refine AllReadyH.cons rfl (fun K hK => ?_) AllReadyH.nil; go_simp)
  refine (mdimpl c t2 _ hI2 (pow_below HT.out D1) E2.out).mono ?_
  rintro e2v V2 ⟨rfl, B2⟩
  have q20 := (B2.cell (p := ⟨w.heap.size, 0, none⟩) (by first | omega | (simp; done) | (simp; omega))).trans hHeld.1
  have q21 := (B2.cell (p := ⟨w.heap.size, 1, none⟩) (by first | omega | (simp; done) | (simp; omega))).trans hHeld.2.1
  have q22 := (B2.cell (p := ⟨w.heap.size, 2, none⟩) (by first | omega | (simp; done) | (simp; omega))).trans hHeld.2.2
  have G2 : w.heap.size < V2.heap.size := (by have := B2.size; (try simp at this); omega)
  have D2 : Below w.heap.size w V2 := D1.trans (B2.mono (by omega))
  clear hHeld
  (refine hK.out _ _ ?_ (fun hHeld => ?_))
  · exact ⟨q20, q21, q22⟩
  ((refine wpAnyH_take (i := 12) (oi := ⟨some 18, _, _, _, _, _⟩) (v := ?_) rfl (by kernel_rfl) (by kernel_rfl) (by kernel_rfl) (fun _ _ _ h => h) (Or.inl ⟨by rfl, ?_⟩) (by assumption) ?_; rotate_left 1; (focus (intro w hSw; (try dsimp only at hSw); go_simp <;> try (first | (with_reducible rfl) | (rw [if_neg (by omega)]) | (rw [if_pos (by omega)])))); try simp only [Act.put, List.setIfInBounds_toArray, List.set_cons_zero, List.set_cons_succ]); (refine wpAnyH_take (i := 13) (oi := ⟨some 2, _, _, _, _, _⟩) (v := ?_) rfl (by kernel_rfl) (by kernel_rfl) (by kernel_rfl) (fun _ _ _ h => h) (Or.inl ⟨by rfl, ?_⟩) (by assumption) ?_; rotate_left 1; (focus (intro w hSw; (try dsimp only at hSw); go_simp <;> try (first | (with_reducible rfl) | (rw [if_neg (by omega)]) | (rw [if_pos (by omega)])))); try simp only [Act.put, List.setIfInBounds_toArray, List.set_cons_zero, List.set_cons_succ]))
  refine wpAnyH_done (by kernel_rfl) ?_ _
  go_wp2
  go_ret
  exact ⟨ret_str HW.out.symm, D2⟩


end Go.Proofs.YticbnahndidplaaDoor
