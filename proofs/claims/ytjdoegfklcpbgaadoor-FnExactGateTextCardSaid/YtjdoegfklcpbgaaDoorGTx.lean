/- The text of a sluice's state: of the model and of the program. -/
import Derived.Test.YtjdoegfklcpbgaaDoorSluC
import Derived.Test.YtjdoegfklcpbgaaDoorDecI
import Derived.Lib.ItoaLen
import Derived.Deep.RegionHeld3
namespace Go.Proofs.YtjdoegfklcpbgaaDoor
open Go.RowKit

def gD (n : Int) : ByteArray := ⟨(Lib.itoa n).toArray⟩
theorem gD_size {n : Int} (h : I64 n) : (gD n).size ≤ 21 := Lib.itoa_length_le n h.1 h.2
def gW (op : Bool) : ByteArray := if op = true then ⟨#[111, 112, 101, 110]⟩ else ⟨#[115, 104, 117, 116]⟩
def gT (op : Bool) (p m : Int) : ByteArray := gW op ++ ⟨#[32, 112, 97, 115, 115, 101, 100, 32]⟩ ++ gD p ++ ⟨#[32, 109, 111, 118, 101, 115, 32]⟩ ++ gD m
theorem dcspec (n : Int) (t : ByteArray) (w : World) (hn : I64 n) (e : t = gD n) :
    Calls Tryd.prog 25 #[.int .i64 n] w fun e w' => e = .returned (.string t) ∧ Below w.heap.size w w' := by
  subst e
  exact dec_spec n w hn

set_option maxRecDepth 100000 in
set_option maxHeartbeats 1600000 in
theorem gtspec (op : Bool) (p m : Int) (w : World) (hg : gtOk p m) (t : ByteArray) (ht : t = gT op p m) :
    Calls Tryd.prog 5 #[.agg #[.bool op, .int .i64 p, .int .i64 m]] w fun e w' => e = .returned (.string t) ∧ Below w.heap.size w w' := by
  have HV := Lib.hid (show true = decide (gtOk p m) from (decide_eq_true hg).symm)
  have hI0 : I64 p := ⟨by have := hg.1; omega, by have := hg.1; omega⟩
  have hI1 : I64 m := ⟨by have := hg.2; omega, by have := hg.2; omega⟩
  obtain ⟨t0, ht0⟩ : ∃ t, t = gD p := ⟨_, rfl⟩
  obtain ⟨t1, ht1⟩ : ∃ t, t = gD m := ⟨_, rfl⟩
  have z0 : t0.size ≤ 21 := by rw [ht0]; exact gD_size hI0
  have z1 : t1.size ≤ 21 := by rw [ht1]; exact gD_size hI1
  have E0 := Lib.hid ht0
  have E1 := Lib.hid ht1

  have HW := Lib.hid (show t = gW op ++ ⟨#[32, 112, 97, 115, 115, 101, 100, 32]⟩ ++ t0 ++ ⟨#[32, 109, 111, 118, 101, 115, 32]⟩ ++ t1 by rw [ht, ht0, ht1]; rfl)
  clear ht ht0 ht1 hg
  cases op
  · have ya : ((⟨#[115, 104, 117, 116]⟩ : ByteArray) ++ ⟨#[32, 112, 97, 115, 115, 101, 100, 32]⟩).size = 12 := rfl
    have yb : ((⟨#[115, 104, 117, 116]⟩ : ByteArray) ++ ⟨#[32, 112, 97, 115, 115, 101, 100, 32]⟩ ++ t0).size = 12 + t0.size := by rw [ByteArray.size_append, ya]
    have yc : ((⟨#[115, 104, 117, 116]⟩ : ByteArray) ++ ⟨#[32, 112, 97, 115, 115, 101, 100, 32]⟩ ++ t0 ++ ⟨#[32, 109, 111, 118, 101, 115, 32]⟩).size = 12 + t0.size + 7 := by rw [ByteArray.size_append, yb]; rfl
    have HW2 := Lib.hid (show t = (⟨#[115, 104, 117, 116]⟩ : ByteArray) ++ ⟨#[32, 112, 97, 115, 115, 101, 100, 32]⟩ ++ t0 ++ ⟨#[32, 109, 111, 118, 101, 115, 32]⟩ ++ t1 from HW.out)
    have yd : ((⟨#[115, 104, 117, 116]⟩ : ByteArray) ++ ⟨#[32, 112, 97, 115, 115, 101, 100, 32]⟩ ++ t0 ++ ⟨#[32, 109, 111, 118, 101, 115, 32]⟩ ++ t1).size = 12 + t0.size + 7 + t1.size := by rw [ByteArray.size_append, yc]
    go_enter Tryd.func5, Tryd.ntmps5
    go_wp2_with (go_at_call 24; refine (gtS_any _ _ _ _ _ HV.out).mono ?_; rintro e0 W0 ⟨rfl, b0⟩; obtain ⟨k0, f0⟩ := bcell b0; have x0 : W0.cell? ⟨w.heap.size, 0, none⟩ = some (.bool false) := (by rw [k0 _ _ (by first | omega | (simp; done) | (simp; omega))]; first | (simp; done) | go_simp); have xf0 : W0.frozen? ⟨w.heap.size, 0, none⟩ = false := (by rw [f0 _ _ (by first | omega | (simp; done) | (simp; omega))]; first | (simp; done) | go_simp); have x1 : W0.cell? ⟨w.heap.size, 1, none⟩ = some (.int .i64 p) := (by rw [k0 _ _ (by first | omega | (simp; done) | (simp; omega))]; first | (simp; done) | go_simp); have xf1 : W0.frozen? ⟨w.heap.size, 1, none⟩ = false := (by rw [f0 _ _ (by first | omega | (simp; done) | (simp; omega))]; first | (simp; done) | go_simp); have x2 : W0.cell? ⟨w.heap.size, 2, none⟩ = some (.int .i64 m) := (by rw [k0 _ _ (by first | omega | (simp; done) | (simp; omega))]; first | (simp; done) | go_simp); have xf2 : W0.frozen? ⟨w.heap.size, 2, none⟩ = false := (by rw [f0 _ _ (by first | omega | (simp; done) | (simp; omega))]; first | (simp; done) | go_simp); have d0 : Below w.heap.size w W0 := (by repeat (first | assumption | exact Below.refl _ _ | (refine Below.trans ?_ (b0.mono (by first | omega | (simp; done) | (simp; omega)))) | (refine Below.setCell ?_ (by first | omega | (simp; done) | (simp; omega)) _) | apply below_drewN | apply Below.drew | (refine Below.alloc ?_ (by first | omega | (simp; done) | (simp; omega)) _))); have s0 : w.heap.size < W0.heap.size := (by have := b0.size; (try simp at this); omega); clear k0 f0 b0)
    refine wp_region_held_drew (S := fun w' => w'.cell? ⟨w.heap.size, 1, none⟩ = some (.int .i64 p) ∧ w'.cell? ⟨w.heap.size, 2, none⟩ = some (.int .i64 m)) (by kernel_rfl) ⟨x1, x2⟩ (fun hHeld => ?_)
    ((refine wpAnyH_take (i := 0) (oi := ⟨some 9, _, _, _, _, _⟩) (v := ?_) rfl (by kernel_rfl) (by kernel_rfl) (by kernel_rfl) (fun _ _ _ h => h) (Or.inl ⟨by rfl, ?_⟩) (by assumption) ?_; rotate_left 1; (focus (intro w hSw; (try dsimp only at hSw); go_simp <;> try (first | (with_reducible rfl) | (rw [if_neg (by omega)])))); try simp only [Act.put, List.setIfInBounds_toArray, List.set_cons_zero, List.set_cons_succ]); (refine wpAnyH_take (i := 1) (oi := ⟨some 10, _, _, _, _, _⟩) (v := ?_) rfl (by kernel_rfl) (by kernel_rfl) (by kernel_rfl) (fun _ _ _ h => h) (Or.inl ⟨by rfl, ?_⟩) (by assumption) ?_; rotate_left 1; (focus (intro w hSw; (try dsimp only at hSw); go_simp <;> try (first | (with_reducible rfl) | (rw [if_neg (by omega)])))); try simp only [Act.put, List.setIfInBounds_toArray, List.set_cons_zero, List.set_cons_succ]); (refine wpAnyH_take (i := 2) (oi := ⟨some 11, _, _, _, _, _⟩) (v := ?_) rfl (by kernel_rfl) (by kernel_rfl) (by kernel_rfl) (fun _ _ _ h => h) (Or.inl ⟨by rfl, ?_⟩) (by assumption) ?_; rotate_left 1; (focus (intro w hSw; (try dsimp only at hSw); go_simp <;> try (first | (with_reducible rfl) | (rw [if_neg (by omega)])))); try simp only [Act.put, List.setIfInBounds_toArray, List.set_cons_zero, List.set_cons_succ]); (refine wpAnyH_take (i := 3) (oi := ⟨some 12, _, _, _, _, _⟩) (v := ?_) rfl (by kernel_rfl) (by kernel_rfl) (by kernel_rfl) (fun _ _ _ h => h) (Or.inl ⟨by rfl, ?_⟩) (by assumption) ?_; rotate_left 1; (focus (intro w hSw; (try dsimp only at hSw); go_simp <;> try (first | (with_reducible rfl) | (rw [if_neg (by omega)])))); try simp only [Act.put, List.setIfInBounds_toArray, List.set_cons_zero, List.set_cons_succ]); (refine wpAnyH_take (i := 7) (oi := ⟨some 16, _, _, _, _, _⟩) (v := ?_) rfl (by kernel_rfl) (by kernel_rfl) (by kernel_rfl) (fun _ _ _ h => h) (Or.inl ⟨by rfl, ?_⟩) (by assumption) ?_; rotate_left 1; (focus (intro w hSw; (try dsimp only at hSw); go_simp <;> try (first | (with_reducible rfl) | (rw [if_neg (by omega)])))); try simp only [Act.put, List.setIfInBounds_toArray, List.set_cons_zero, List.set_cons_succ]); (refine wpAnyH_take (i := 8) (oi := ⟨some 17, _, _, _, _, _⟩) (v := ?_) rfl (by kernel_rfl) (by kernel_rfl) (by kernel_rfl) (fun _ _ _ h => h) (Or.inl ⟨by rfl, ?_⟩) (by assumption) ?_; rotate_left 1; (focus (intro w hSw; (try dsimp only at hSw); go_simp <;> try (first | (with_reducible rfl) | (rw [if_neg (by omega)])))); try simp only [Act.put, List.setIfInBounds_toArray, List.set_cons_zero, List.set_cons_succ]))
    (refine wpAnyH_ready (rs := [4]) (by kernel_rfl) (by simp) ?_; refine AllReadyH.cons rfl (fun K hK => ?_) AllReadyH.nil; go_simp)
    refine (dcspec p t0 _ hI0  E0.out).mono ?_
    rintro e0 Wa ⟨rfl, ba⟩
    have yWa1 := (ba.cell (p := ⟨w.heap.size, 1, none⟩) (by first | omega | (simp; done) | (simp; omega))).trans hHeld.1
    have yWa2 := (ba.cell (p := ⟨w.heap.size, 2, none⟩) (by first | omega | (simp; done) | (simp; omega))).trans hHeld.2
    have gWa : w.heap.size < Wa.heap.size := (by have := ba.size; (try simp at this); omega)
    have da : Below w.heap.size w Wa := (by repeat (first | assumption | exact Below.refl _ _ | (refine Below.trans ?_ (ba.mono (by first | omega | (simp; done) | (simp; omega)))) | (refine Below.trans ?_ (d0.mono (by first | omega | (simp; done) | (simp; omega)))) | (refine Below.setCell ?_ (by first | omega | (simp; done) | (simp; omega)) _) | apply below_drewN | apply Below.drew | (refine Below.alloc ?_ (by first | omega | (simp; done) | (simp; omega)) _)))
    clear hHeld
    (refine hK.out _ _ ?_ (fun hHeld => ?_))
    · exact ⟨yWa1, yWa2⟩
    ((refine wpAnyH_take (i := 5) (oi := ⟨some 14, _, _, _, _, _⟩) (v := ?_) rfl (by kernel_rfl) (by kernel_rfl) (by kernel_rfl) (fun _ _ _ h => h) (Or.inl ⟨by rfl, ?_⟩) (by assumption) ?_; rotate_left 1; (focus (intro w hSw; (try dsimp only at hSw); go_simp <;> try (first | (with_reducible rfl) | (rw [if_neg (by omega)])))); try simp only [Act.put, List.setIfInBounds_toArray, List.set_cons_zero, List.set_cons_succ]); (refine wpAnyH_take (i := 6) (oi := ⟨some 15, _, _, _, _, _⟩) (v := ?_) rfl (by kernel_rfl) (by kernel_rfl) (by kernel_rfl) (fun _ _ _ h => h) (Or.inl ⟨by rfl, ?_⟩) (by assumption) ?_; rotate_left 1; (focus (intro w hSw; (try dsimp only at hSw); go_simp <;> try (first | (with_reducible rfl) | (rw [if_neg (by omega)])))); try simp only [Act.put, List.setIfInBounds_toArray, List.set_cons_zero, List.set_cons_succ]))
    (refine wpAnyH_ready (rs := [9]) (by kernel_rfl) (by simp) ?_; refine AllReadyH.cons rfl (fun K hK => ?_) AllReadyH.nil; go_simp)
    refine (dcspec m t1 _ hI1  E1.out).mono ?_
    rintro e1 Wb ⟨rfl, bb⟩
    have yWb1 := (bb.cell (p := ⟨w.heap.size, 1, none⟩) (by first | omega | (simp; done) | (simp; omega))).trans hHeld.1
    have yWb2 := (bb.cell (p := ⟨w.heap.size, 2, none⟩) (by first | omega | (simp; done) | (simp; omega))).trans hHeld.2
    have gWb : w.heap.size < Wb.heap.size := (by have := bb.size; (try simp at this); omega)
    have db : Below w.heap.size w Wb := da.trans (bb.mono (by omega))
    clear hHeld
    (refine hK.out _ _ ?_ (fun hHeld => ?_))
    · exact ⟨yWb1, yWb2⟩
    ((refine wpAnyH_take (i := 10) (oi := ⟨some 19, _, _, _, _, _⟩) (v := ?_) rfl (by kernel_rfl) (by kernel_rfl) (by kernel_rfl) (fun _ _ _ h => h) (Or.inl ⟨by rfl, ?_⟩) (by assumption) ?_; rotate_left 1; (focus (intro w hSw; (try dsimp only at hSw); go_simp <;> try (first | (with_reducible rfl) | (rw [if_neg (by omega)])))); try simp only [Act.put, List.setIfInBounds_toArray, List.set_cons_zero, List.set_cons_succ]); (refine wpAnyH_take (i := 11) (oi := ⟨some 2, _, _, _, _, _⟩) (v := ?_) rfl (by kernel_rfl) (by kernel_rfl) (by kernel_rfl) (fun _ _ _ h => h) (Or.inl ⟨by rfl, ?_⟩) (by assumption) ?_; rotate_left 1; (focus (intro w hSw; (try dsimp only at hSw); go_simp <;> try (first | (with_reducible rfl) | (rw [if_neg (by omega)])))); try simp only [Act.put, List.setIfInBounds_toArray, List.set_cons_zero, List.set_cons_succ]))
    refine wpAnyH_done (by kernel_rfl) ?_ _
    go_wp2
    go_ret
    exact ⟨ret_str HW2.out.symm, db⟩
  · have ya : ((⟨#[111, 112, 101, 110]⟩ : ByteArray) ++ ⟨#[32, 112, 97, 115, 115, 101, 100, 32]⟩).size = 12 := rfl
    have yb : ((⟨#[111, 112, 101, 110]⟩ : ByteArray) ++ ⟨#[32, 112, 97, 115, 115, 101, 100, 32]⟩ ++ t0).size = 12 + t0.size := by rw [ByteArray.size_append, ya]
    have yc : ((⟨#[111, 112, 101, 110]⟩ : ByteArray) ++ ⟨#[32, 112, 97, 115, 115, 101, 100, 32]⟩ ++ t0 ++ ⟨#[32, 109, 111, 118, 101, 115, 32]⟩).size = 12 + t0.size + 7 := by rw [ByteArray.size_append, yb]; rfl
    have HW2 := Lib.hid (show t = (⟨#[111, 112, 101, 110]⟩ : ByteArray) ++ ⟨#[32, 112, 97, 115, 115, 101, 100, 32]⟩ ++ t0 ++ ⟨#[32, 109, 111, 118, 101, 115, 32]⟩ ++ t1 from HW.out)
    have yd : ((⟨#[111, 112, 101, 110]⟩ : ByteArray) ++ ⟨#[32, 112, 97, 115, 115, 101, 100, 32]⟩ ++ t0 ++ ⟨#[32, 109, 111, 118, 101, 115, 32]⟩ ++ t1).size = 12 + t0.size + 7 + t1.size := by rw [ByteArray.size_append, yc]
    go_enter Tryd.func5, Tryd.ntmps5
    go_wp2_with (go_at_call 24; refine (gtS_any _ _ _ _ _ HV.out).mono ?_; rintro e0 W0 ⟨rfl, b0⟩; obtain ⟨k0, f0⟩ := bcell b0; have x0 : W0.cell? ⟨w.heap.size, 0, none⟩ = some (.bool true) := (by rw [k0 _ _ (by first | omega | (simp; done) | (simp; omega))]; first | (simp; done) | go_simp); have xf0 : W0.frozen? ⟨w.heap.size, 0, none⟩ = false := (by rw [f0 _ _ (by first | omega | (simp; done) | (simp; omega))]; first | (simp; done) | go_simp); have x1 : W0.cell? ⟨w.heap.size, 1, none⟩ = some (.int .i64 p) := (by rw [k0 _ _ (by first | omega | (simp; done) | (simp; omega))]; first | (simp; done) | go_simp); have xf1 : W0.frozen? ⟨w.heap.size, 1, none⟩ = false := (by rw [f0 _ _ (by first | omega | (simp; done) | (simp; omega))]; first | (simp; done) | go_simp); have x2 : W0.cell? ⟨w.heap.size, 2, none⟩ = some (.int .i64 m) := (by rw [k0 _ _ (by first | omega | (simp; done) | (simp; omega))]; first | (simp; done) | go_simp); have xf2 : W0.frozen? ⟨w.heap.size, 2, none⟩ = false := (by rw [f0 _ _ (by first | omega | (simp; done) | (simp; omega))]; first | (simp; done) | go_simp); have d0 : Below w.heap.size w W0 := (by repeat (first | assumption | exact Below.refl _ _ | (refine Below.trans ?_ (b0.mono (by first | omega | (simp; done) | (simp; omega)))) | (refine Below.setCell ?_ (by first | omega | (simp; done) | (simp; omega)) _) | apply below_drewN | apply Below.drew | (refine Below.alloc ?_ (by first | omega | (simp; done) | (simp; omega)) _))); have s0 : w.heap.size < W0.heap.size := (by have := b0.size; (try simp at this); omega); clear k0 f0 b0)
    refine wp_region_held_drew (S := fun w' => w'.cell? ⟨w.heap.size, 1, none⟩ = some (.int .i64 p) ∧ w'.cell? ⟨w.heap.size, 2, none⟩ = some (.int .i64 m)) (by kernel_rfl) ⟨x1, x2⟩ (fun hHeld => ?_)
    ((refine wpAnyH_take (i := 0) (oi := ⟨some 9, _, _, _, _, _⟩) (v := ?_) rfl (by kernel_rfl) (by kernel_rfl) (by kernel_rfl) (fun _ _ _ h => h) (Or.inl ⟨by rfl, ?_⟩) (by assumption) ?_; rotate_left 1; (focus (intro w hSw; (try dsimp only at hSw); go_simp <;> try (first | (with_reducible rfl) | (rw [if_neg (by omega)])))); try simp only [Act.put, List.setIfInBounds_toArray, List.set_cons_zero, List.set_cons_succ]); (refine wpAnyH_take (i := 1) (oi := ⟨some 10, _, _, _, _, _⟩) (v := ?_) rfl (by kernel_rfl) (by kernel_rfl) (by kernel_rfl) (fun _ _ _ h => h) (Or.inl ⟨by rfl, ?_⟩) (by assumption) ?_; rotate_left 1; (focus (intro w hSw; (try dsimp only at hSw); go_simp <;> try (first | (with_reducible rfl) | (rw [if_neg (by omega)])))); try simp only [Act.put, List.setIfInBounds_toArray, List.set_cons_zero, List.set_cons_succ]); (refine wpAnyH_take (i := 2) (oi := ⟨some 11, _, _, _, _, _⟩) (v := ?_) rfl (by kernel_rfl) (by kernel_rfl) (by kernel_rfl) (fun _ _ _ h => h) (Or.inl ⟨by rfl, ?_⟩) (by assumption) ?_; rotate_left 1; (focus (intro w hSw; (try dsimp only at hSw); go_simp <;> try (first | (with_reducible rfl) | (rw [if_neg (by omega)])))); try simp only [Act.put, List.setIfInBounds_toArray, List.set_cons_zero, List.set_cons_succ]); (refine wpAnyH_take (i := 3) (oi := ⟨some 12, _, _, _, _, _⟩) (v := ?_) rfl (by kernel_rfl) (by kernel_rfl) (by kernel_rfl) (fun _ _ _ h => h) (Or.inl ⟨by rfl, ?_⟩) (by assumption) ?_; rotate_left 1; (focus (intro w hSw; (try dsimp only at hSw); go_simp <;> try (first | (with_reducible rfl) | (rw [if_neg (by omega)])))); try simp only [Act.put, List.setIfInBounds_toArray, List.set_cons_zero, List.set_cons_succ]); (refine wpAnyH_take (i := 7) (oi := ⟨some 16, _, _, _, _, _⟩) (v := ?_) rfl (by kernel_rfl) (by kernel_rfl) (by kernel_rfl) (fun _ _ _ h => h) (Or.inl ⟨by rfl, ?_⟩) (by assumption) ?_; rotate_left 1; (focus (intro w hSw; (try dsimp only at hSw); go_simp <;> try (first | (with_reducible rfl) | (rw [if_neg (by omega)])))); try simp only [Act.put, List.setIfInBounds_toArray, List.set_cons_zero, List.set_cons_succ]); (refine wpAnyH_take (i := 8) (oi := ⟨some 17, _, _, _, _, _⟩) (v := ?_) rfl (by kernel_rfl) (by kernel_rfl) (by kernel_rfl) (fun _ _ _ h => h) (Or.inl ⟨by rfl, ?_⟩) (by assumption) ?_; rotate_left 1; (focus (intro w hSw; (try dsimp only at hSw); go_simp <;> try (first | (with_reducible rfl) | (rw [if_neg (by omega)])))); try simp only [Act.put, List.setIfInBounds_toArray, List.set_cons_zero, List.set_cons_succ]))
    (refine wpAnyH_ready (rs := [4]) (by kernel_rfl) (by simp) ?_; refine AllReadyH.cons rfl (fun K hK => ?_) AllReadyH.nil; go_simp)
    refine (dcspec p t0 _ hI0  E0.out).mono ?_
    rintro e0 Wa ⟨rfl, ba⟩
    have yWa1 := (ba.cell (p := ⟨w.heap.size, 1, none⟩) (by first | omega | (simp; done) | (simp; omega))).trans hHeld.1
    have yWa2 := (ba.cell (p := ⟨w.heap.size, 2, none⟩) (by first | omega | (simp; done) | (simp; omega))).trans hHeld.2
    have gWa : w.heap.size < Wa.heap.size := (by have := ba.size; (try simp at this); omega)
    have da : Below w.heap.size w Wa := (by repeat (first | assumption | exact Below.refl _ _ | (refine Below.trans ?_ (ba.mono (by first | omega | (simp; done) | (simp; omega)))) | (refine Below.trans ?_ (d0.mono (by first | omega | (simp; done) | (simp; omega)))) | (refine Below.setCell ?_ (by first | omega | (simp; done) | (simp; omega)) _) | apply below_drewN | apply Below.drew | (refine Below.alloc ?_ (by first | omega | (simp; done) | (simp; omega)) _)))
    clear hHeld
    (refine hK.out _ _ ?_ (fun hHeld => ?_))
    · exact ⟨yWa1, yWa2⟩
    ((refine wpAnyH_take (i := 5) (oi := ⟨some 14, _, _, _, _, _⟩) (v := ?_) rfl (by kernel_rfl) (by kernel_rfl) (by kernel_rfl) (fun _ _ _ h => h) (Or.inl ⟨by rfl, ?_⟩) (by assumption) ?_; rotate_left 1; (focus (intro w hSw; (try dsimp only at hSw); go_simp <;> try (first | (with_reducible rfl) | (rw [if_neg (by omega)])))); try simp only [Act.put, List.setIfInBounds_toArray, List.set_cons_zero, List.set_cons_succ]); (refine wpAnyH_take (i := 6) (oi := ⟨some 15, _, _, _, _, _⟩) (v := ?_) rfl (by kernel_rfl) (by kernel_rfl) (by kernel_rfl) (fun _ _ _ h => h) (Or.inl ⟨by rfl, ?_⟩) (by assumption) ?_; rotate_left 1; (focus (intro w hSw; (try dsimp only at hSw); go_simp <;> try (first | (with_reducible rfl) | (rw [if_neg (by omega)])))); try simp only [Act.put, List.setIfInBounds_toArray, List.set_cons_zero, List.set_cons_succ]))
    (refine wpAnyH_ready (rs := [9]) (by kernel_rfl) (by simp) ?_; refine AllReadyH.cons rfl (fun K hK => ?_) AllReadyH.nil; go_simp)
    refine (dcspec m t1 _ hI1  E1.out).mono ?_
    rintro e1 Wb ⟨rfl, bb⟩
    have yWb1 := (bb.cell (p := ⟨w.heap.size, 1, none⟩) (by first | omega | (simp; done) | (simp; omega))).trans hHeld.1
    have yWb2 := (bb.cell (p := ⟨w.heap.size, 2, none⟩) (by first | omega | (simp; done) | (simp; omega))).trans hHeld.2
    have gWb : w.heap.size < Wb.heap.size := (by have := bb.size; (try simp at this); omega)
    have db : Below w.heap.size w Wb := da.trans (bb.mono (by omega))
    clear hHeld
    (refine hK.out _ _ ?_ (fun hHeld => ?_))
    · exact ⟨yWb1, yWb2⟩
    ((refine wpAnyH_take (i := 10) (oi := ⟨some 19, _, _, _, _, _⟩) (v := ?_) rfl (by kernel_rfl) (by kernel_rfl) (by kernel_rfl) (fun _ _ _ h => h) (Or.inl ⟨by rfl, ?_⟩) (by assumption) ?_; rotate_left 1; (focus (intro w hSw; (try dsimp only at hSw); go_simp <;> try (first | (with_reducible rfl) | (rw [if_neg (by omega)])))); try simp only [Act.put, List.setIfInBounds_toArray, List.set_cons_zero, List.set_cons_succ]); (refine wpAnyH_take (i := 11) (oi := ⟨some 2, _, _, _, _, _⟩) (v := ?_) rfl (by kernel_rfl) (by kernel_rfl) (by kernel_rfl) (fun _ _ _ h => h) (Or.inl ⟨by rfl, ?_⟩) (by assumption) ?_; rotate_left 1; (focus (intro w hSw; (try dsimp only at hSw); go_simp <;> try (first | (with_reducible rfl) | (rw [if_neg (by omega)])))); try simp only [Act.put, List.setIfInBounds_toArray, List.set_cons_zero, List.set_cons_succ]))
    refine wpAnyH_done (by kernel_rfl) ?_ _
    go_wp2
    go_ret
    exact ⟨ret_str HW2.out.symm, db⟩

theorem dcimpl (n : Int) (t : ByteArray) (w : World) (hn : I64 n) (ht : PowTab w) (e : t = gD n) :
    Calls Tryd.prog 26 #[.int .i64 n] w fun e w' => e = .returned (.string t) ∧ Below w.heap.size w w' := by
  subst e
  exact dec_impl n w hn ht

set_option maxRecDepth 100000 in
set_option maxHeartbeats 1600000 in
theorem gtimpl (op : Bool) (p m : Int) (w : World) (hpow : PowTab w) (hg : gtOk p m) (t : ByteArray) (ht : t = gT op p m) :
    Calls Tryd.prog 7 #[.agg #[.bool op, .int .i64 p, .int .i64 m]] w fun e w' => e = .returned (.string t) ∧ Below w.heap.size w w' := by
  have HV := Lib.hid (show true = decide (gtOk p m) from (decide_eq_true hg).symm)
  have hI0 : I64 p := ⟨by have := hg.1; omega, by have := hg.1; omega⟩
  have hI1 : I64 m := ⟨by have := hg.2; omega, by have := hg.2; omega⟩
  obtain ⟨t0, ht0⟩ : ∃ t, t = gD p := ⟨_, rfl⟩
  obtain ⟨t1, ht1⟩ : ∃ t, t = gD m := ⟨_, rfl⟩
  have z0 : t0.size ≤ 21 := by rw [ht0]; exact gD_size hI0
  have z1 : t1.size ≤ 21 := by rw [ht1]; exact gD_size hI1
  have E0 := Lib.hid ht0
  have E1 := Lib.hid ht1
  have HT := Lib.hid hpow
  have HW := Lib.hid (show t = gW op ++ ⟨#[32, 112, 97, 115, 115, 101, 100, 32]⟩ ++ t0 ++ ⟨#[32, 109, 111, 118, 101, 115, 32]⟩ ++ t1 by rw [ht, ht0, ht1]; rfl)
  clear ht ht0 ht1 hg hpow
  cases op
  · have ya : ((⟨#[115, 104, 117, 116]⟩ : ByteArray) ++ ⟨#[32, 112, 97, 115, 115, 101, 100, 32]⟩).size = 12 := rfl
    have yb : ((⟨#[115, 104, 117, 116]⟩ : ByteArray) ++ ⟨#[32, 112, 97, 115, 115, 101, 100, 32]⟩ ++ t0).size = 12 + t0.size := by rw [ByteArray.size_append, ya]
    have yc : ((⟨#[115, 104, 117, 116]⟩ : ByteArray) ++ ⟨#[32, 112, 97, 115, 115, 101, 100, 32]⟩ ++ t0 ++ ⟨#[32, 109, 111, 118, 101, 115, 32]⟩).size = 12 + t0.size + 7 := by rw [ByteArray.size_append, yb]; rfl
    have HW2 := Lib.hid (show t = (⟨#[115, 104, 117, 116]⟩ : ByteArray) ++ ⟨#[32, 112, 97, 115, 115, 101, 100, 32]⟩ ++ t0 ++ ⟨#[32, 109, 111, 118, 101, 115, 32]⟩ ++ t1 from HW.out)
    have yd : ((⟨#[115, 104, 117, 116]⟩ : ByteArray) ++ ⟨#[32, 112, 97, 115, 115, 101, 100, 32]⟩ ++ t0 ++ ⟨#[32, 109, 111, 118, 101, 115, 32]⟩ ++ t1).size = 12 + t0.size + 7 + t1.size := by rw [ByteArray.size_append, yc]
    go_enter Tryd.func7, Tryd.ntmps7
    go_wp2_with (go_at_call 20; refine (gtI_any _ _ _ _ _ HV.out).mono ?_; rintro e0 W0 ⟨rfl, b0⟩; obtain ⟨k0, f0⟩ := bcell b0; have x0 : W0.cell? ⟨w.heap.size, 0, none⟩ = some (.bool false) := (by rw [k0 _ _ (by first | omega | (simp; done) | (simp; omega))]; first | (simp; done) | go_simp); have xf0 : W0.frozen? ⟨w.heap.size, 0, none⟩ = false := (by rw [f0 _ _ (by first | omega | (simp; done) | (simp; omega))]; first | (simp; done) | go_simp); have x1 : W0.cell? ⟨w.heap.size, 1, none⟩ = some (.int .i64 p) := (by rw [k0 _ _ (by first | omega | (simp; done) | (simp; omega))]; first | (simp; done) | go_simp); have xf1 : W0.frozen? ⟨w.heap.size, 1, none⟩ = false := (by rw [f0 _ _ (by first | omega | (simp; done) | (simp; omega))]; first | (simp; done) | go_simp); have x2 : W0.cell? ⟨w.heap.size, 2, none⟩ = some (.int .i64 m) := (by rw [k0 _ _ (by first | omega | (simp; done) | (simp; omega))]; first | (simp; done) | go_simp); have xf2 : W0.frozen? ⟨w.heap.size, 2, none⟩ = false := (by rw [f0 _ _ (by first | omega | (simp; done) | (simp; omega))]; first | (simp; done) | go_simp); have d0 : Below w.heap.size w W0 := (by repeat (first | assumption | exact Below.refl _ _ | (refine Below.trans ?_ (b0.mono (by first | omega | (simp; done) | (simp; omega)))) | (refine Below.setCell ?_ (by first | omega | (simp; done) | (simp; omega)) _) | apply below_drewN | apply Below.drew | (refine Below.alloc ?_ (by first | omega | (simp; done) | (simp; omega)) _))); have s0 : w.heap.size < W0.heap.size := (by have := b0.size; (try simp at this); omega); clear k0 f0 b0)
    refine wp_region_held_drew (S := fun w' => w'.cell? ⟨w.heap.size, 1, none⟩ = some (.int .i64 p) ∧ w'.cell? ⟨w.heap.size, 2, none⟩ = some (.int .i64 m)) (by kernel_rfl) ⟨x1, x2⟩ (fun hHeld => ?_)
    ((refine wpAnyH_take (i := 0) (oi := ⟨some 9, _, _, _, _, _⟩) (v := ?_) rfl (by kernel_rfl) (by kernel_rfl) (by kernel_rfl) (fun _ _ _ h => h) (Or.inl ⟨by rfl, ?_⟩) (by assumption) ?_; rotate_left 1; (focus (intro w hSw; (try dsimp only at hSw); go_simp <;> try (first | (with_reducible rfl) | (rw [if_neg (by omega)])))); try simp only [Act.put, List.setIfInBounds_toArray, List.set_cons_zero, List.set_cons_succ]); (refine wpAnyH_take (i := 1) (oi := ⟨some 10, _, _, _, _, _⟩) (v := ?_) rfl (by kernel_rfl) (by kernel_rfl) (by kernel_rfl) (fun _ _ _ h => h) (Or.inl ⟨by rfl, ?_⟩) (by assumption) ?_; rotate_left 1; (focus (intro w hSw; (try dsimp only at hSw); go_simp <;> try (first | (with_reducible rfl) | (rw [if_neg (by omega)])))); try simp only [Act.put, List.setIfInBounds_toArray, List.set_cons_zero, List.set_cons_succ]); (refine wpAnyH_take (i := 2) (oi := ⟨some 11, _, _, _, _, _⟩) (v := ?_) rfl (by kernel_rfl) (by kernel_rfl) (by kernel_rfl) (fun _ _ _ h => h) (Or.inl ⟨by rfl, ?_⟩) (by assumption) ?_; rotate_left 1; (focus (intro w hSw; (try dsimp only at hSw); go_simp <;> try (first | (with_reducible rfl) | (rw [if_neg (by omega)])))); try simp only [Act.put, List.setIfInBounds_toArray, List.set_cons_zero, List.set_cons_succ]); (refine wpAnyH_take (i := 3) (oi := ⟨some 12, _, _, _, _, _⟩) (v := ?_) rfl (by kernel_rfl) (by kernel_rfl) (by kernel_rfl) (fun _ _ _ h => h) (Or.inl ⟨by rfl, ?_⟩) (by assumption) ?_; rotate_left 1; (focus (intro w hSw; (try dsimp only at hSw); go_simp <;> try (first | (with_reducible rfl) | (rw [if_neg (by omega)])))); try simp only [Act.put, List.setIfInBounds_toArray, List.set_cons_zero, List.set_cons_succ]); (refine wpAnyH_take (i := 7) (oi := ⟨some 16, _, _, _, _, _⟩) (v := ?_) rfl (by kernel_rfl) (by kernel_rfl) (by kernel_rfl) (fun _ _ _ h => h) (Or.inl ⟨by rfl, ?_⟩) (by assumption) ?_; rotate_left 1; (focus (intro w hSw; (try dsimp only at hSw); go_simp <;> try (first | (with_reducible rfl) | (rw [if_neg (by omega)])))); try simp only [Act.put, List.setIfInBounds_toArray, List.set_cons_zero, List.set_cons_succ]); (refine wpAnyH_take (i := 8) (oi := ⟨some 17, _, _, _, _, _⟩) (v := ?_) rfl (by kernel_rfl) (by kernel_rfl) (by kernel_rfl) (fun _ _ _ h => h) (Or.inl ⟨by rfl, ?_⟩) (by assumption) ?_; rotate_left 1; (focus (intro w hSw; (try dsimp only at hSw); go_simp <;> try (first | (with_reducible rfl) | (rw [if_neg (by omega)])))); try simp only [Act.put, List.setIfInBounds_toArray, List.set_cons_zero, List.set_cons_succ]))
    (refine wpAnyH_ready (rs := [4]) (by kernel_rfl) (by simp) ?_; refine AllReadyH.cons rfl (fun K hK => ?_) AllReadyH.nil; go_simp)
    refine (dcimpl p t0 _ hI0 (pow_below HT.out (by repeat (first | assumption | exact Below.refl _ _ | (refine Below.setCell ?_ (by first | omega | (simp; done) | (simp; omega)) _) | apply below_drewN | apply Below.drew | (refine Below.alloc ?_ (by first | omega | (simp; done) | (simp; omega)) _)))) E0.out).mono ?_
    rintro e0 Wa ⟨rfl, ba⟩
    have yWa1 := (ba.cell (p := ⟨w.heap.size, 1, none⟩) (by first | omega | (simp; done) | (simp; omega))).trans hHeld.1
    have yWa2 := (ba.cell (p := ⟨w.heap.size, 2, none⟩) (by first | omega | (simp; done) | (simp; omega))).trans hHeld.2
    have gWa : w.heap.size < Wa.heap.size := (by have := ba.size; (try simp at this); omega)
    have da : Below w.heap.size w Wa := (by repeat (first | assumption | exact Below.refl _ _ | (refine Below.trans ?_ (ba.mono (by first | omega | (simp; done) | (simp; omega)))) | (refine Below.trans ?_ (d0.mono (by first | omega | (simp; done) | (simp; omega)))) | (refine Below.setCell ?_ (by first | omega | (simp; done) | (simp; omega)) _) | apply below_drewN | apply Below.drew | (refine Below.alloc ?_ (by first | omega | (simp; done) | (simp; omega)) _)))
    clear hHeld
    (refine hK.out _ _ ?_ (fun hHeld => ?_))
    · exact ⟨yWa1, yWa2⟩
    ((refine wpAnyH_take (i := 5) (oi := ⟨some 14, _, _, _, _, _⟩) (v := ?_) rfl (by kernel_rfl) (by kernel_rfl) (by kernel_rfl) (fun _ _ _ h => h) (Or.inl ⟨by rfl, ?_⟩) (by assumption) ?_; rotate_left 1; (focus (intro w hSw; (try dsimp only at hSw); go_simp <;> try (first | (with_reducible rfl) | (rw [if_neg (by omega)])))); try simp only [Act.put, List.setIfInBounds_toArray, List.set_cons_zero, List.set_cons_succ]); (refine wpAnyH_take (i := 6) (oi := ⟨some 15, _, _, _, _, _⟩) (v := ?_) rfl (by kernel_rfl) (by kernel_rfl) (by kernel_rfl) (fun _ _ _ h => h) (Or.inl ⟨by rfl, ?_⟩) (by assumption) ?_; rotate_left 1; (focus (intro w hSw; (try dsimp only at hSw); go_simp <;> try (first | (with_reducible rfl) | (rw [if_neg (by omega)])))); try simp only [Act.put, List.setIfInBounds_toArray, List.set_cons_zero, List.set_cons_succ]))
    (refine wpAnyH_ready (rs := [9]) (by kernel_rfl) (by simp) ?_; refine AllReadyH.cons rfl (fun K hK => ?_) AllReadyH.nil; go_simp)
    refine (dcimpl m t1 _ hI1 (pow_below HT.out da) E1.out).mono ?_
    rintro e1 Wb ⟨rfl, bb⟩
    have yWb1 := (bb.cell (p := ⟨w.heap.size, 1, none⟩) (by first | omega | (simp; done) | (simp; omega))).trans hHeld.1
    have yWb2 := (bb.cell (p := ⟨w.heap.size, 2, none⟩) (by first | omega | (simp; done) | (simp; omega))).trans hHeld.2
    have gWb : w.heap.size < Wb.heap.size := (by have := bb.size; (try simp at this); omega)
    have db : Below w.heap.size w Wb := da.trans (bb.mono (by omega))
    clear hHeld
    (refine hK.out _ _ ?_ (fun hHeld => ?_))
    · exact ⟨yWb1, yWb2⟩
    ((refine wpAnyH_take (i := 10) (oi := ⟨some 19, _, _, _, _, _⟩) (v := ?_) rfl (by kernel_rfl) (by kernel_rfl) (by kernel_rfl) (fun _ _ _ h => h) (Or.inl ⟨by rfl, ?_⟩) (by assumption) ?_; rotate_left 1; (focus (intro w hSw; (try dsimp only at hSw); go_simp <;> try (first | (with_reducible rfl) | (rw [if_neg (by omega)])))); try simp only [Act.put, List.setIfInBounds_toArray, List.set_cons_zero, List.set_cons_succ]); (refine wpAnyH_take (i := 11) (oi := ⟨some 2, _, _, _, _, _⟩) (v := ?_) rfl (by kernel_rfl) (by kernel_rfl) (by kernel_rfl) (fun _ _ _ h => h) (Or.inl ⟨by rfl, ?_⟩) (by assumption) ?_; rotate_left 1; (focus (intro w hSw; (try dsimp only at hSw); go_simp <;> try (first | (with_reducible rfl) | (rw [if_neg (by omega)])))); try simp only [Act.put, List.setIfInBounds_toArray, List.set_cons_zero, List.set_cons_succ]))
    refine wpAnyH_done (by kernel_rfl) ?_ _
    go_wp2
    go_ret
    exact ⟨ret_str HW2.out.symm, db⟩
  · have ya : ((⟨#[111, 112, 101, 110]⟩ : ByteArray) ++ ⟨#[32, 112, 97, 115, 115, 101, 100, 32]⟩).size = 12 := rfl
    have yb : ((⟨#[111, 112, 101, 110]⟩ : ByteArray) ++ ⟨#[32, 112, 97, 115, 115, 101, 100, 32]⟩ ++ t0).size = 12 + t0.size := by rw [ByteArray.size_append, ya]
    have yc : ((⟨#[111, 112, 101, 110]⟩ : ByteArray) ++ ⟨#[32, 112, 97, 115, 115, 101, 100, 32]⟩ ++ t0 ++ ⟨#[32, 109, 111, 118, 101, 115, 32]⟩).size = 12 + t0.size + 7 := by rw [ByteArray.size_append, yb]; rfl
    have HW2 := Lib.hid (show t = (⟨#[111, 112, 101, 110]⟩ : ByteArray) ++ ⟨#[32, 112, 97, 115, 115, 101, 100, 32]⟩ ++ t0 ++ ⟨#[32, 109, 111, 118, 101, 115, 32]⟩ ++ t1 from HW.out)
    have yd : ((⟨#[111, 112, 101, 110]⟩ : ByteArray) ++ ⟨#[32, 112, 97, 115, 115, 101, 100, 32]⟩ ++ t0 ++ ⟨#[32, 109, 111, 118, 101, 115, 32]⟩ ++ t1).size = 12 + t0.size + 7 + t1.size := by rw [ByteArray.size_append, yc]
    go_enter Tryd.func7, Tryd.ntmps7
    go_wp2_with (go_at_call 20; refine (gtI_any _ _ _ _ _ HV.out).mono ?_; rintro e0 W0 ⟨rfl, b0⟩; obtain ⟨k0, f0⟩ := bcell b0; have x0 : W0.cell? ⟨w.heap.size, 0, none⟩ = some (.bool true) := (by rw [k0 _ _ (by first | omega | (simp; done) | (simp; omega))]; first | (simp; done) | go_simp); have xf0 : W0.frozen? ⟨w.heap.size, 0, none⟩ = false := (by rw [f0 _ _ (by first | omega | (simp; done) | (simp; omega))]; first | (simp; done) | go_simp); have x1 : W0.cell? ⟨w.heap.size, 1, none⟩ = some (.int .i64 p) := (by rw [k0 _ _ (by first | omega | (simp; done) | (simp; omega))]; first | (simp; done) | go_simp); have xf1 : W0.frozen? ⟨w.heap.size, 1, none⟩ = false := (by rw [f0 _ _ (by first | omega | (simp; done) | (simp; omega))]; first | (simp; done) | go_simp); have x2 : W0.cell? ⟨w.heap.size, 2, none⟩ = some (.int .i64 m) := (by rw [k0 _ _ (by first | omega | (simp; done) | (simp; omega))]; first | (simp; done) | go_simp); have xf2 : W0.frozen? ⟨w.heap.size, 2, none⟩ = false := (by rw [f0 _ _ (by first | omega | (simp; done) | (simp; omega))]; first | (simp; done) | go_simp); have d0 : Below w.heap.size w W0 := (by repeat (first | assumption | exact Below.refl _ _ | (refine Below.trans ?_ (b0.mono (by first | omega | (simp; done) | (simp; omega)))) | (refine Below.setCell ?_ (by first | omega | (simp; done) | (simp; omega)) _) | apply below_drewN | apply Below.drew | (refine Below.alloc ?_ (by first | omega | (simp; done) | (simp; omega)) _))); have s0 : w.heap.size < W0.heap.size := (by have := b0.size; (try simp at this); omega); clear k0 f0 b0)
    refine wp_region_held_drew (S := fun w' => w'.cell? ⟨w.heap.size, 1, none⟩ = some (.int .i64 p) ∧ w'.cell? ⟨w.heap.size, 2, none⟩ = some (.int .i64 m)) (by kernel_rfl) ⟨x1, x2⟩ (fun hHeld => ?_)
    ((refine wpAnyH_take (i := 0) (oi := ⟨some 9, _, _, _, _, _⟩) (v := ?_) rfl (by kernel_rfl) (by kernel_rfl) (by kernel_rfl) (fun _ _ _ h => h) (Or.inl ⟨by rfl, ?_⟩) (by assumption) ?_; rotate_left 1; (focus (intro w hSw; (try dsimp only at hSw); go_simp <;> try (first | (with_reducible rfl) | (rw [if_neg (by omega)])))); try simp only [Act.put, List.setIfInBounds_toArray, List.set_cons_zero, List.set_cons_succ]); (refine wpAnyH_take (i := 1) (oi := ⟨some 10, _, _, _, _, _⟩) (v := ?_) rfl (by kernel_rfl) (by kernel_rfl) (by kernel_rfl) (fun _ _ _ h => h) (Or.inl ⟨by rfl, ?_⟩) (by assumption) ?_; rotate_left 1; (focus (intro w hSw; (try dsimp only at hSw); go_simp <;> try (first | (with_reducible rfl) | (rw [if_neg (by omega)])))); try simp only [Act.put, List.setIfInBounds_toArray, List.set_cons_zero, List.set_cons_succ]); (refine wpAnyH_take (i := 2) (oi := ⟨some 11, _, _, _, _, _⟩) (v := ?_) rfl (by kernel_rfl) (by kernel_rfl) (by kernel_rfl) (fun _ _ _ h => h) (Or.inl ⟨by rfl, ?_⟩) (by assumption) ?_; rotate_left 1; (focus (intro w hSw; (try dsimp only at hSw); go_simp <;> try (first | (with_reducible rfl) | (rw [if_neg (by omega)])))); try simp only [Act.put, List.setIfInBounds_toArray, List.set_cons_zero, List.set_cons_succ]); (refine wpAnyH_take (i := 3) (oi := ⟨some 12, _, _, _, _, _⟩) (v := ?_) rfl (by kernel_rfl) (by kernel_rfl) (by kernel_rfl) (fun _ _ _ h => h) (Or.inl ⟨by rfl, ?_⟩) (by assumption) ?_; rotate_left 1; (focus (intro w hSw; (try dsimp only at hSw); go_simp <;> try (first | (with_reducible rfl) | (rw [if_neg (by omega)])))); try simp only [Act.put, List.setIfInBounds_toArray, List.set_cons_zero, List.set_cons_succ]); (refine wpAnyH_take (i := 7) (oi := ⟨some 16, _, _, _, _, _⟩) (v := ?_) rfl (by kernel_rfl) (by kernel_rfl) (by kernel_rfl) (fun _ _ _ h => h) (Or.inl ⟨by rfl, ?_⟩) (by assumption) ?_; rotate_left 1; (focus (intro w hSw; (try dsimp only at hSw); go_simp <;> try (first | (with_reducible rfl) | (rw [if_neg (by omega)])))); try simp only [Act.put, List.setIfInBounds_toArray, List.set_cons_zero, List.set_cons_succ]); (refine wpAnyH_take (i := 8) (oi := ⟨some 17, _, _, _, _, _⟩) (v := ?_) rfl (by kernel_rfl) (by kernel_rfl) (by kernel_rfl) (fun _ _ _ h => h) (Or.inl ⟨by rfl, ?_⟩) (by assumption) ?_; rotate_left 1; (focus (intro w hSw; (try dsimp only at hSw); go_simp <;> try (first | (with_reducible rfl) | (rw [if_neg (by omega)])))); try simp only [Act.put, List.setIfInBounds_toArray, List.set_cons_zero, List.set_cons_succ]))
    (refine wpAnyH_ready (rs := [4]) (by kernel_rfl) (by simp) ?_; refine AllReadyH.cons rfl (fun K hK => ?_) AllReadyH.nil; go_simp)
    refine (dcimpl p t0 _ hI0 (pow_below HT.out (by repeat (first | assumption | exact Below.refl _ _ | (refine Below.setCell ?_ (by first | omega | (simp; done) | (simp; omega)) _) | apply below_drewN | apply Below.drew | (refine Below.alloc ?_ (by first | omega | (simp; done) | (simp; omega)) _)))) E0.out).mono ?_
    rintro e0 Wa ⟨rfl, ba⟩
    have yWa1 := (ba.cell (p := ⟨w.heap.size, 1, none⟩) (by first | omega | (simp; done) | (simp; omega))).trans hHeld.1
    have yWa2 := (ba.cell (p := ⟨w.heap.size, 2, none⟩) (by first | omega | (simp; done) | (simp; omega))).trans hHeld.2
    have gWa : w.heap.size < Wa.heap.size := (by have := ba.size; (try simp at this); omega)
    have da : Below w.heap.size w Wa := (by repeat (first | assumption | exact Below.refl _ _ | (refine Below.trans ?_ (ba.mono (by first | omega | (simp; done) | (simp; omega)))) | (refine Below.trans ?_ (d0.mono (by first | omega | (simp; done) | (simp; omega)))) | (refine Below.setCell ?_ (by first | omega | (simp; done) | (simp; omega)) _) | apply below_drewN | apply Below.drew | (refine Below.alloc ?_ (by first | omega | (simp; done) | (simp; omega)) _)))
    clear hHeld
    (refine hK.out _ _ ?_ (fun hHeld => ?_))
    · exact ⟨yWa1, yWa2⟩
    ((refine wpAnyH_take (i := 5) (oi := ⟨some 14, _, _, _, _, _⟩) (v := ?_) rfl (by kernel_rfl) (by kernel_rfl) (by kernel_rfl) (fun _ _ _ h => h) (Or.inl ⟨by rfl, ?_⟩) (by assumption) ?_; rotate_left 1; (focus (intro w hSw; (try dsimp only at hSw); go_simp <;> try (first | (with_reducible rfl) | (rw [if_neg (by omega)])))); try simp only [Act.put, List.setIfInBounds_toArray, List.set_cons_zero, List.set_cons_succ]); (refine wpAnyH_take (i := 6) (oi := ⟨some 15, _, _, _, _, _⟩) (v := ?_) rfl (by kernel_rfl) (by kernel_rfl) (by kernel_rfl) (fun _ _ _ h => h) (Or.inl ⟨by rfl, ?_⟩) (by assumption) ?_; rotate_left 1; (focus (intro w hSw; (try dsimp only at hSw); go_simp <;> try (first | (with_reducible rfl) | (rw [if_neg (by omega)])))); try simp only [Act.put, List.setIfInBounds_toArray, List.set_cons_zero, List.set_cons_succ]))
    (refine wpAnyH_ready (rs := [9]) (by kernel_rfl) (by simp) ?_; refine AllReadyH.cons rfl (fun K hK => ?_) AllReadyH.nil; go_simp)
    refine (dcimpl m t1 _ hI1 (pow_below HT.out da) E1.out).mono ?_
    rintro e1 Wb ⟨rfl, bb⟩
    have yWb1 := (bb.cell (p := ⟨w.heap.size, 1, none⟩) (by first | omega | (simp; done) | (simp; omega))).trans hHeld.1
    have yWb2 := (bb.cell (p := ⟨w.heap.size, 2, none⟩) (by first | omega | (simp; done) | (simp; omega))).trans hHeld.2
    have gWb : w.heap.size < Wb.heap.size := (by have := bb.size; (try simp at this); omega)
    have db : Below w.heap.size w Wb := da.trans (bb.mono (by omega))
    clear hHeld
    (refine hK.out _ _ ?_ (fun hHeld => ?_))
    · exact ⟨yWb1, yWb2⟩
    ((refine wpAnyH_take (i := 10) (oi := ⟨some 19, _, _, _, _, _⟩) (v := ?_) rfl (by kernel_rfl) (by kernel_rfl) (by kernel_rfl) (fun _ _ _ h => h) (Or.inl ⟨by rfl, ?_⟩) (by assumption) ?_; rotate_left 1; (focus (intro w hSw; (try dsimp only at hSw); go_simp <;> try (first | (with_reducible rfl) | (rw [if_neg (by omega)])))); try simp only [Act.put, List.setIfInBounds_toArray, List.set_cons_zero, List.set_cons_succ]); (refine wpAnyH_take (i := 11) (oi := ⟨some 2, _, _, _, _, _⟩) (v := ?_) rfl (by kernel_rfl) (by kernel_rfl) (by kernel_rfl) (fun _ _ _ h => h) (Or.inl ⟨by rfl, ?_⟩) (by assumption) ?_; rotate_left 1; (focus (intro w hSw; (try dsimp only at hSw); go_simp <;> try (first | (with_reducible rfl) | (rw [if_neg (by omega)])))); try simp only [Act.put, List.setIfInBounds_toArray, List.set_cons_zero, List.set_cons_succ]))
    refine wpAnyH_done (by kernel_rfl) ?_ _
    go_wp2
    go_ret
    exact ⟨ret_str HW2.out.symm, db⟩


end Go.Proofs.YtjdoegfklcpbgaaDoor
