/- The cells that stay dry. -/
import Derived.Test.YtlkgbemlagfdjaaFloI
namespace Go.Proofs.Ytlkgbemlagfdjaa
open Go.RowKit

def r0_SafeCells (a0_0 : Int) (a0_1 : Int) (xa0_2 : List Int) (a1 : Int) (a2 : Int) : List Int := if LandOk a0_0 a0_1 xa0_2 ∧ flP xa0_2.length a1 a2 then ixN (fun k => wetB a0_0 a0_1 a2 xa0_2 xa0_2.length a1.toNat k == false) xa0_2.length else []
def r1_SafeCells (a0_0 : Int) (a0_1 : Int) (xa0_2 : List Int) (a1 : Int) (a2 : Int) : Int := lcode a0_0 a0_1 xa0_2 (flP xa0_2.length a1 a2)
theorem len_r0_SafeCells (a0_0 : Int) (a0_1 : Int) (xa0_2 : List Int) (a1 : Int) (a2 : Int) : (r0_SafeCells a0_0 a0_1 xa0_2 a1 a2).length ≤ 1048576 := by
  unfold r0_SafeCells
  split
  · rename_i h
    have h1 := ixN_len (fun k => wetB a0_0 a0_1 a2 xa0_2 xa0_2.length a1.toNat k == false) xa0_2.length
    have h2 := h.1.len
    omega
  · simp

set_option maxRecDepth 100000 in
set_option maxHeartbeats 3200000 in
theorem specC_SafeCells (a0_0 : Int) (a0_1 : Int) (a0_2 : Option Addr) (la0_2 ca0_2 : Nat) (xa0_2 : List Int) (a1 : Int) (a2 : Int) (w : World) (ha0_0 : (Lit.int .i64 a0_0).wf = true) (ha0_1 : (Lit.int .i64 a0_1).wf = true) (ha0_2 : la0_2 ≤ 1048576) (ra0_2 : Rd w w.heap.size a0_2 la0_2 xa0_2) (fa0_2 : Wf xa0_2) (ha1 : (Lit.int .i64 a1).wf = true) (ha2 : (Lit.int .i64 a2).wf = true) :
    Calls Try.prog 45 #[.agg #[.int .i64 a0_0, .int .i64 a0_1, .slice a0_2 la0_2 ca0_2], .int .i64 a1, .int .i64 a2] w fun e w' => ∃ B0 dB0, e = .returned (.tuple #[.slice B0 (r0_SafeCells a0_0 a0_1 xa0_2 a1 a2).length dB0, .int .i64 (r1_SafeCells a0_0 a0_1 xa0_2 a1 a2)]) ∧ Below w.heap.size w w' ∧ Wr w' w.heap.size B0 (r0_SafeCells a0_0 a0_1 xa0_2 a1 a2).length (r0_SafeCells a0_0 a0_1 xa0_2 a1 a2) := by
  have hln := ra0_2.1
  have RA := Lib.hid ra0_2
  clear ra0_2
  by_cases h : LandOk a0_0 a0_1 xa0_2 ∧ flP xa0_2.length a1 a2
  · have hlen := h.1.len
    have hx9 := h.2.1
    unfold inC at hx9
    obtain ⟨x, rfl⟩ : ∃ x : Nat, a1 = (x : Int) := ⟨a1.toNat, by omega⟩
    have hx : x < la0_2 := by omega
    have h144 : la0_2 ≤ 144 := by omega
    obtain ⟨M, hM⟩ : ∃ M, M = wetB a0_0 a0_1 a2 xa0_2 la0_2 x := ⟨_, rfl⟩
    have e0 : r0_SafeCells a0_0 a0_1 xa0_2 (x : Int) a2 = ixN (fun k => M k == false) la0_2 := by
      rw [show r0_SafeCells a0_0 a0_1 xa0_2 (x : Int) a2 = _ from if_pos h, hln, hM]; rfl
    have e1 : r1_SafeCells a0_0 a0_1 xa0_2 (x : Int) a2 = 0 := lcode_ok h.1 h.2
    obtain ⟨L, hL⟩ : ∃ L, L = ixN (fun k => M k == false) la0_2 := ⟨_, rfl⟩
    rw [e0, e1, ← hL]
    have HL := Lib.hid hL
    have HM := Lib.hid hM
    have H := Lib.hid h.1
    have HC := Lib.hid (show lcode a0_0 a0_1 xa0_2 (flP la0_2 x a2) = 0 by rw [← hln]; exact e1)
    clear h hx9 e0 e1 hL hM hlen
    go_enter Try.func45, Try.ntmps45
    go_wp2_with (first | (go_at_call 78; refine (l11Code_t w.heap.size a0_0 a0_1 _ la0_2 ca0_2 xa0_2 _ a2 _ ha0_2 ⟨by simp, by simp, by simp⟩ ((RA.out.below (by repeat (first | assumption | exact Below.refl _ _ | (refine Below.setCell ?_ (by first | omega | (simp; done) | (simp; omega)) _) | apply below_drewN | apply Below.drew | (refine Below.alloc ?_ (by first | omega | (simp; done) | (simp; omega)) _)))).mono (by first | omega | (simp; done) | (simp; omega))) 0 HC.out).mono ?_; rintro e1 w1 ⟨rfl, m1, rfl⟩) | (go_at_call 80; refine (l11Wet_t w.heap.size a0_0 a0_1 _ la0_2 ca0_2 xa0_2 x a2 _ H.out ((RA.out.below (by repeat (first | assumption | exact Below.refl _ _ | (refine Below.setCell ?_ (by first | omega | (simp; done) | (simp; omega)) _) | apply below_drewN | apply Below.drew | (refine Below.alloc ?_ (by first | omega | (simp; done) | (simp; omega)) _)))).mono (by first | omega | (simp; done) | (simp; omega))) hx ⟨by simp, by simp, by simp⟩ (by simp) M HM.out).mono ?_; rintro e2 W2 ⟨g, d, rfl, b2, g2, s2⟩; have d2 : Below w.heap.size w W2 := (by repeat (first | assumption | exact Below.refl _ _ | (refine Below.trans ?_ (b2.mono (by first | omega | (simp; done) | (simp; omega)))) | (refine Below.setCell ?_ (by first | omega | (simp; done) | (simp; omega)) _) | apply below_drewN | apply Below.drew | (refine Below.alloc ?_ (by first | omega | (simp; done) | (simp; omega)) _)))) | (go_at_call 79; refine (l11List_t g la0_2 d M false _ (by omega) s2 L HL.out).mono ?_; rintro e3 W3 ⟨B3, d3', rfl, b3, x3⟩; have d3 : Below w.heap.size w W3 := d2.trans (b3.mono d2.size)))
    go_ret2
    exact ⟨B3, _, rfl, d3, x3.lower d2.size⟩
  · have e0 : r0_SafeCells a0_0 a0_1 xa0_2 a1 a2 = [] := if_neg h
    have e2 := lcode_ne h
    rw [e0]
    obtain ⟨C, hC⟩ : ∃ C, C = r1_SafeCells a0_0 a0_1 xa0_2 a1 a2 := ⟨_, rfl⟩
    rw [← hC]
    have e3 : (C != 0) = true := by rw [hC]; exact e2
    have HC := Lib.hid (show lcode a0_0 a0_1 xa0_2 (flP la0_2 a1 a2) = C by rw [← hln]; exact hC.symm)
    clear h e0 e2 hC
    go_enter Try.func45, Try.ntmps45
    go_wp2_with (first | (go_at_call 78; refine (l11Code_t w.heap.size a0_0 a0_1 _ la0_2 ca0_2 xa0_2 _ a2 _ ha0_2 ⟨by simp, by simp, by simp⟩ ((RA.out.below (by repeat (first | assumption | exact Below.refl _ _ | (refine Below.setCell ?_ (by first | omega | (simp; done) | (simp; omega)) _) | apply below_drewN | apply Below.drew | (refine Below.alloc ?_ (by first | omega | (simp; done) | (simp; omega)) _)))).mono (by first | omega | (simp; done) | (simp; omega))) C HC.out).mono ?_; rintro e1 w1 ⟨rfl, m1, rfl⟩))
    go_ret2
    exact ⟨none, 0, rfl, (by repeat (first | assumption | exact Below.refl _ _ | (refine Below.setCell ?_ (by first | omega | (simp; done) | (simp; omega)) _) | apply below_drewN | apply Below.drew | (refine Below.alloc ?_ (by first | omega | (simp; done) | (simp; omega)) _))), rfl, fun h => absurd h (by simp)⟩

set_option maxRecDepth 100000 in
set_option maxHeartbeats 3200000 in
theorem implC_SafeCells (a0_0 : Int) (a0_1 : Int) (a0_2 : Option Addr) (la0_2 ca0_2 : Nat) (xa0_2 : List Int) (a1 : Int) (a2 : Int) (w : World) (ha0_0 : (Lit.int .i64 a0_0).wf = true) (ha0_1 : (Lit.int .i64 a0_1).wf = true) (ha0_2 : la0_2 ≤ 1048576) (ra0_2 : Rd w w.heap.size a0_2 la0_2 xa0_2) (fa0_2 : Wf xa0_2) (ha1 : (Lit.int .i64 a1).wf = true) (ha2 : (Lit.int .i64 a2).wf = true) :
    Calls Try.prog 46 #[.agg #[.int .i64 a0_0, .int .i64 a0_1, .slice a0_2 la0_2 ca0_2], .int .i64 a1, .int .i64 a2] w fun e w' => ∃ B0 dB0, e = .returned (.tuple #[.slice B0 (r0_SafeCells a0_0 a0_1 xa0_2 a1 a2).length dB0, .int .i64 (r1_SafeCells a0_0 a0_1 xa0_2 a1 a2)]) ∧ Below w.heap.size w w' ∧ Wr w' w.heap.size B0 (r0_SafeCells a0_0 a0_1 xa0_2 a1 a2).length (r0_SafeCells a0_0 a0_1 xa0_2 a1 a2) := by
  have hln := ra0_2.1
  have RA := Lib.hid ra0_2
  clear ra0_2
  by_cases h : LandOk a0_0 a0_1 xa0_2 ∧ flP xa0_2.length a1 a2
  · have hlen := h.1.len
    have hx9 := h.2.1
    unfold inC at hx9
    obtain ⟨x, rfl⟩ : ∃ x : Nat, a1 = (x : Int) := ⟨a1.toNat, by omega⟩
    have hx : x < la0_2 := by omega
    have h144 : la0_2 ≤ 144 := by omega
    obtain ⟨M, hM⟩ : ∃ M, M = wetB a0_0 a0_1 a2 xa0_2 la0_2 x := ⟨_, rfl⟩
    have e0 : r0_SafeCells a0_0 a0_1 xa0_2 (x : Int) a2 = ixN (fun k => M k == false) la0_2 := by
      rw [show r0_SafeCells a0_0 a0_1 xa0_2 (x : Int) a2 = _ from if_pos h, hln, hM]; rfl
    have e1 : r1_SafeCells a0_0 a0_1 xa0_2 (x : Int) a2 = 0 := lcode_ok h.1 h.2
    obtain ⟨L, hL⟩ : ∃ L, L = ixN (fun k => M k == false) la0_2 := ⟨_, rfl⟩
    rw [e0, e1, ← hL]
    have HL := Lib.hid hL
    have HM := Lib.hid hM
    have H := Lib.hid h.1
    have HC := Lib.hid (show lcode a0_0 a0_1 xa0_2 (flP la0_2 x a2) = 0 by rw [← hln]; exact e1)
    clear h hx9 e0 e1 hL hM hlen
    have HP := Lib.hid (show ixN (fun k => !M k) la0_2 = L by rw [HL.out]; exact ixN_congr fun k _ => by simp)
    have hmf : ∀ (fn : Fn) (first cap : Array Value) (w : World), (Instr.makeFunc fn first cap).run Try.prog w = .ok (.func fn first cap) w := fun _ _ _ _ => rfl
    obtain ⟨hz9, hi9⟩ := zero_of_info (P := Try.prog) (t := 90) (v := .agg (bcs fun _ => false)) (n := 144) (by kernel_rfl)
    obtain ⟨R, hR⟩ : ∃ R, R = bcs M := ⟨_, rfl⟩
    have hR9 : R.size = 144 := by rw [hR]; exact bcs_size _
    have HR := Lib.hid hR
    have HR2 := Lib.hid (show R = bcs (wetB a0_0 a0_1 a2 xa0_2 la0_2 x) by rw [hR, HM.out])
    clear hR
    go_enter Try.func46, Try.ntmps46
    go_wp2_with (first | (go_at_call 82; refine (floodCode_t a0_0 a0_1 _ la0_2 ca0_2 xa0_2 _ a2 _ ha0_2 hln ((RA.out.below (by repeat (first | assumption | exact Below.refl _ _ | (refine Below.setCell ?_ (by first | omega | (simp; done) | (simp; omega)) _) | apply below_drewN | apply Below.drew | (refine Below.alloc ?_ (by first | omega | (simp; done) | (simp; omega)) _)))).mono (by first | omega | (simp; done) | (simp; omega))) 0 HC.out).mono ?_; rintro e1 W1 ⟨rfl, b1⟩; obtain ⟨k1, f1⟩ := bcell b1; have z0 : W1.cell? ⟨w.heap.size, 0, none⟩ = some (.int .i64 a0_0) := (by rw [k1 _ _ (by first | omega | (simp; done) | (simp; omega))]; first | (simp; done) | go_simp); have zf0 : W1.frozen? ⟨w.heap.size, 0, none⟩ = false := (by rw [f1 _ _ (by first | omega | (simp; done) | (simp; omega))]; first | (simp; done) | go_simp); have z1 : W1.cell? ⟨w.heap.size, 1, none⟩ = some (.int .i64 a0_1) := (by rw [k1 _ _ (by first | omega | (simp; done) | (simp; omega))]; first | (simp; done) | go_simp); have zf1 : W1.frozen? ⟨w.heap.size, 1, none⟩ = false := (by rw [f1 _ _ (by first | omega | (simp; done) | (simp; omega))]; first | (simp; done) | go_simp); have z2 : W1.cell? ⟨w.heap.size, 2, none⟩ = some (.slice a0_2 la0_2 ca0_2) := (by rw [k1 _ _ (by first | omega | (simp; done) | (simp; omega))]; first | (simp; done) | go_simp); have zf2 : W1.frozen? ⟨w.heap.size, 2, none⟩ = false := (by rw [f1 _ _ (by first | omega | (simp; done) | (simp; omega))]; first | (simp; done) | go_simp); clear k1 f1; have s1 : w.heap.size < W1.heap.size := (by have := b1.size; simp at this; omega); have d1 : Below w.heap.size w W1 := (by repeat (first | assumption | exact Below.refl _ _ | (refine Below.trans ?_ (b1.mono (by first | omega | (simp; done) | (simp; omega)))) | (refine Below.setCell ?_ (by first | omega | (simp; done) | (simp; omega)) _) | apply below_drewN | apply Below.drew | (refine Below.alloc ?_ (by first | omega | (simp; done) | (simp; omega)) _))); clear b1) | (go_at_call 83; refine (cellsAt_t a0_0 a0_1 _ la0_2 ca0_2 xa0_2 x a2 _ H.out ((RA.out.below (by repeat (first | assumption | exact Below.refl _ _ | (refine Below.trans ?_ (d1.mono (by first | omega | (simp; done) | (simp; omega)))) | (refine Below.setCell ?_ (by first | omega | (simp; done) | (simp; omega)) _) | apply below_drewN | apply Below.drew | (refine Below.alloc ?_ (by first | omega | (simp; done) | (simp; omega)) _)))).mono (by first | omega | (simp; done) | (simp; omega))) hx R HR2.out).mono ?_; rintro e2 W2 ⟨rfl, b2⟩; have s2 : W1.heap.size ≤ W2.heap.size := b2.size; have y0 : W2.cell? ⟨w.heap.size, 0, none⟩ = _ := (b2.cell (p := ⟨w.heap.size, 0, none⟩) (show w.heap.size < _ from (by first | omega | (simp; done) | (simp; omega)))).trans z0; have yf0 : W2.frozen? ⟨w.heap.size, 0, none⟩ = _ := (b2.frozen (p := ⟨w.heap.size, 0, none⟩) (show w.heap.size < _ from (by first | omega | (simp; done) | (simp; omega)))).trans zf0; have y1 : W2.cell? ⟨w.heap.size, 1, none⟩ = _ := (b2.cell (p := ⟨w.heap.size, 1, none⟩) (show w.heap.size < _ from (by first | omega | (simp; done) | (simp; omega)))).trans z1; have yf1 : W2.frozen? ⟨w.heap.size, 1, none⟩ = _ := (b2.frozen (p := ⟨w.heap.size, 1, none⟩) (show w.heap.size < _ from (by first | omega | (simp; done) | (simp; omega)))).trans zf1; have y2 : W2.cell? ⟨w.heap.size, 2, none⟩ = _ := (b2.cell (p := ⟨w.heap.size, 2, none⟩) (show w.heap.size < _ from (by first | omega | (simp; done) | (simp; omega)))).trans z2; have yf2 : W2.frozen? ⟨w.heap.size, 2, none⟩ = _ := (b2.frozen (p := ⟨w.heap.size, 2, none⟩) (show w.heap.size < _ from (by first | omega | (simp; done) | (simp; omega)))).trans zf2; have d2 : Below w.heap.size w W2 := (by repeat (first | assumption | exact Below.refl _ _ | (refine Below.trans ?_ (b2.mono (by first | omega | (simp; done) | (simp; omega)))) | (refine Below.trans ?_ (d1.mono (by first | omega | (simp; done) | (simp; omega)))) | (refine Below.setCell ?_ (by first | omega | (simp; done) | (simp; omega)) _) | apply below_drewN | apply Below.drew | (refine Below.alloc ?_ (by first | omega | (simp; done) | (simp; omega)) _))); clear b2; have iN := IsB.new W2 (fun _ => false); have l4 := iN.storeCells (R := M); have iM := iN.setRow M; have d3 : Below w.heap.size w ((W2.alloc (.cells (bcs fun _ => false) 90)).setRow W2.heap.size (bcs M)) := below_setRowB (by repeat (first | assumption | exact Below.refl _ _ | (refine Below.trans ?_ (d2.mono (by first | omega | (simp; done) | (simp; omega)))) | (refine Below.setCell ?_ (by first | omega | (simp; done) | (simp; omega)) _) | apply below_drewN | apply Below.drew | (refine Below.alloc ?_ (by first | omega | (simp; done) | (simp; omega)) _))) (by omega) _; have dA : Below W2.heap.size W2 ((W2.alloc (.cells (bcs fun _ => false) 90)).setRow W2.heap.size (bcs M)) := below_setRowB (by repeat (first | assumption | exact Below.refl _ _ | (refine Below.setCell ?_ (by first | omega | (simp; done) | (simp; omega)) _) | apply below_drewN | apply Below.drew | (refine Below.alloc ?_ (by first | omega | (simp; done) | (simp; omega)) _))) (by omega) _; rw [← HR.out] at l4 iM d3 dA; have u2 := (dA.cell (p := ⟨w.heap.size, 2, none⟩) (show w.heap.size < W2.heap.size from (by first | omega | (simp; done) | (simp; omega)))).trans y2) | (go_at_call 84; refine (ix_sf (.pointer (some ⟨W2.heap.size, 0, none⟩)) la0_2 (fun k => !M k) _ (by omega) (fun i h W v hi hh hW hv => by subst hi; exact (sf1_t W2.heap.size h M W (IsB.below (show IsB _ W2.heap.size M from iM) hW (by simp)) (by omega) v hv).mono fun _ _ h => ⟨h.1, by rw [← h.2]; exact Below.refl _ _⟩)).mono ?_; rintro e3 W3 ⟨B3, d3', rfl, b3, x3⟩; rw [HP.out] at x3 ⊢; have d4 : Below w.heap.size w W3 := d3.trans (b3.mono (by have := d3.size; omega))))
    go_ret2
    exact ⟨B3, _, rfl, d4, x3.lower d3.size⟩
  · have e0 : r0_SafeCells a0_0 a0_1 xa0_2 a1 a2 = [] := if_neg h
    have e2 := lcode_ne h
    rw [e0]
    obtain ⟨C, hC⟩ : ∃ C, C = r1_SafeCells a0_0 a0_1 xa0_2 a1 a2 := ⟨_, rfl⟩
    rw [← hC]
    have e3 : (C != 0) = true := by rw [hC]; exact e2
    have HC := Lib.hid (show lcode a0_0 a0_1 xa0_2 (flP la0_2 a1 a2) = C by rw [← hln]; exact hC.symm)
    clear h e0 e2 hC
    go_enter Try.func46, Try.ntmps46
    go_wp2_with (first | (go_at_call 82; refine (floodCode_t a0_0 a0_1 _ la0_2 ca0_2 xa0_2 _ a2 _ ha0_2 hln ((RA.out.below (by repeat (first | assumption | exact Below.refl _ _ | (refine Below.setCell ?_ (by first | omega | (simp; done) | (simp; omega)) _) | apply below_drewN | apply Below.drew | (refine Below.alloc ?_ (by first | omega | (simp; done) | (simp; omega)) _)))).mono (by first | omega | (simp; done) | (simp; omega))) C HC.out).mono ?_; rintro e1 W1 ⟨rfl, b1⟩; have d1 : Below w.heap.size w W1 := (by repeat (first | assumption | exact Below.refl _ _ | (refine Below.trans ?_ (b1.mono (by first | omega | (simp; done) | (simp; omega)))) | (refine Below.setCell ?_ (by first | omega | (simp; done) | (simp; omega)) _) | apply below_drewN | apply Below.drew | (refine Below.alloc ?_ (by first | omega | (simp; done) | (simp; omega)) _)))))
    go_ret2
    exact ⟨none, 0, rfl, d1, rfl, fun h => absurd h (by simp)⟩


end Go.Proofs.Ytlkgbemlagfdjaa
