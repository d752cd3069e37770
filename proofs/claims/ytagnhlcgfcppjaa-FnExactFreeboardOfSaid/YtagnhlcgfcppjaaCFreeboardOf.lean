import Derived.Test.YtagnhlcgfcppjaaDikeL
namespace Go.Proofs.Ytagnhlcgfcppjaa
open Go.RowKit

def r0_FreeboardOf (xa0 : List RSection) (a1 : Int) : Int := if DkOk xa0.length xa0 ∧ dlv a1 then (if 0 ≤ (xa0.getD (wkF xa0 xa0.length) zSection).f1 - a1 then (xa0.getD (wkF xa0 xa0.length) zSection).f1 - a1 else 0) else 0
def r1_FreeboardOf (xa0 : List RSection) (a1 : Int) : Int := if DkOk xa0.length xa0 ∧ dlv a1 then (if 0 ≤ (xa0.getD (wkF xa0 xa0.length) zSection).f1 - a1 then 0 else 10) else dcode xa0.length xa0 (dlv a1)

set_option maxHeartbeats 800000 in
theorem specC_FreeboardOf (a0 : Option Addr) (la0 ca0 : Nat) (xa0 : List RSection) (a1 : Int) (w : World) (ha0 : la0 ≤ 1048576) (ra0 : Rd_Section w w.heap.size a0 la0 xa0) (fa0 : Wf_Section xa0) (ha1 : (Lit.int .i64 a1).wf = true) :
    Calls Try.prog 26 #[.slice a0 la0 ca0, .int .i64 a1] w fun e w' => e = .returned (.tuple #[.int .i64 (r0_FreeboardOf xa0 a1), .int .i64 (r1_FreeboardOf xa0 a1)]) ∧ Below w.heap.size w w' := by
  have hln := ra0.len
  have RA := Lib.hid ra0
  clear ra0
  by_cases h : DkOk la0 xa0 ∧ dlv a1
  · obtain ⟨y, hy⟩ : ∃ y, y = (xa0.getD (wkF xa0 la0) zSection).f1 := ⟨_, rfl⟩
    have hwl := wkF_lt xa0 la0 h.1.2.1
    have hd := h.1.1 _ hwl
    rw [← hy] at hd
    have hl := h.2
    unfold dlv at hl
    have f1 := IntWalk.i64_in (y - a1) (by omega)
    have e0 : r0_FreeboardOf xa0 a1 = if 0 ≤ y - a1 then y - a1 else 0 := by unfold r0_FreeboardOf; rw [hln, ← hy, if_pos h]
    have e1 : r1_FreeboardOf xa0 a1 = if 0 ≤ y - a1 then 0 else 10 := by unfold r1_FreeboardOf; rw [hln, ← hy, if_pos h]
    rw [e0, e1]
    have HV := Lib.hid h.1
    have HC := Lib.hid (dcode_ok h.1 h.2)
    have h1 := h.1.2.1
    have HY := Lib.hid hy.symm
    have hy2 : -2000 ≤ y ∧ y ≤ 2000 := ⟨hd.2.2.1, hd.2.2.2⟩
    obtain ⟨hy2, hy3⟩ := hy2
    obtain ⟨hl1, hl2⟩ := hl
    obtain ⟨ab, o, rfl, hbB, hc⟩ := RA.out.at (by omega)
    have q1 := (hc _ hwl).2
    rw [← hy] at q1
    have HW := Lib.hid (fun W (hW : Rd_Section W W.heap.size (some ⟨ab, o, none⟩) la0 xa0) => weakestS_t (some ⟨ab, o, none⟩) la0 ca0 xa0 W ha0 h1 hW)
    clear hc HY
    generalize wkF xa0 la0 = m at *
    clear e0 e1 h hd hy
    by_cases g : 0 ≤ y - a1
    · rw [if_pos g, if_pos g]
      go_enter Try.func26, Try.ntmps26
      go_wp2_with (first | (go_at_call 63; refine (l07Code_t _ _ _ xa0 _ _ ha0 RA.out _ HC.out).mono ?_; rintro eo wo ⟨rfl, rfl⟩) | (go_at_call 61; refine (HW.out _ RA.out).mono ?_; rintro e3 W3 ⟨rfl, b3⟩; have z1 : W3.cell? ⟨ab, o + m * 2 + 1, none⟩ = _ := (b3.cell (p := ⟨ab, o + m * 2 + 1, none⟩) hbB).trans q1))
      go_ret2
      exact ⟨rfl, (by repeat (first | assumption | exact Below.refl _ _ | (refine Below.trans ?_ (b3.mono (by first | omega | (simp; done) | (simp; omega)))) | (refine Below.setCell ?_ (by first | omega | (simp; done) | (simp; omega)) _) | apply below_drewN | apply Below.drew | (refine Below.alloc ?_ (by first | omega | (simp; done) | (simp; omega)) _)))⟩
    · rw [if_neg g, if_neg g]
      go_enter Try.func26, Try.ntmps26
      go_wp2_with (first | (go_at_call 63; refine (l07Code_t _ _ _ xa0 _ _ ha0 RA.out _ HC.out).mono ?_; rintro eo wo ⟨rfl, rfl⟩) | (go_at_call 61; refine (HW.out _ RA.out).mono ?_; rintro e3 W3 ⟨rfl, b3⟩; have z1 : W3.cell? ⟨ab, o + m * 2 + 1, none⟩ = _ := (b3.cell (p := ⟨ab, o + m * 2 + 1, none⟩) hbB).trans q1))
      go_ret2
      exact ⟨rfl, (by repeat (first | assumption | exact Below.refl _ _ | (refine Below.trans ?_ (b3.mono (by first | omega | (simp; done) | (simp; omega)))) | (refine Below.setCell ?_ (by first | omega | (simp; done) | (simp; omega)) _) | apply below_drewN | apply Below.drew | (refine Below.alloc ?_ (by first | omega | (simp; done) | (simp; omega)) _)))⟩
  · have e0 : r0_FreeboardOf xa0 a1 = 0 := by unfold r0_FreeboardOf; rw [hln, if_neg h]
    have e1 : r1_FreeboardOf xa0 a1 = dcode la0 xa0 (dlv a1) := by unfold r1_FreeboardOf; rw [hln, if_neg h]
    rw [e0, e1]
    have e2 := dcode_ne h
    obtain ⟨C, hC⟩ : ∃ C, dcode la0 xa0 (dlv a1) = C := ⟨_, rfl⟩
    rw [hC] at e2 ⊢
    have HC := Lib.hid hC
    clear e0 e1 h hC
    go_enter Try.func26, Try.ntmps26
    go_wp2_with (first | (go_at_call 63; refine (l07Code_t _ _ _ xa0 _ _ ha0 RA.out _ HC.out).mono ?_; rintro eo wo ⟨rfl, rfl⟩))
    go_ret2
    exact ⟨rfl, Below.refl _ _⟩

set_option maxHeartbeats 800000 in
theorem implC_FreeboardOf (a0 : Option Addr) (la0 ca0 : Nat) (xa0 : List RSection) (a1 : Int) (w : World) (ha0 : la0 ≤ 1048576) (ra0 : Rd_Section w w.heap.size a0 la0 xa0) (fa0 : Wf_Section xa0) (ha1 : (Lit.int .i64 a1).wf = true) :
    Calls Try.prog 27 #[.slice a0 la0 ca0, .int .i64 a1] w fun e w' => e = .returned (.tuple #[.int .i64 (r0_FreeboardOf xa0 a1), .int .i64 (r1_FreeboardOf xa0 a1)]) ∧ Below w.heap.size w w' := by
  have hln := ra0.len
  have RA := Lib.hid ra0
  clear ra0
  by_cases h : DkOk la0 xa0 ∧ dlv a1
  · obtain ⟨y, hy⟩ : ∃ y, y = (xa0.getD (wkF xa0 la0) zSection).f1 := ⟨_, rfl⟩
    have hwl := wkF_lt xa0 la0 h.1.2.1
    have hd := h.1.1 _ hwl
    rw [← hy] at hd
    have hl := h.2
    unfold dlv at hl
    have f1 := IntWalk.i64_in (y - a1) (by omega)
    have e0 : r0_FreeboardOf xa0 a1 = if 0 ≤ y - a1 then y - a1 else 0 := by unfold r0_FreeboardOf; rw [hln, ← hy, if_pos h]
    have e1 : r1_FreeboardOf xa0 a1 = if 0 ≤ y - a1 then 0 else 10 := by unfold r1_FreeboardOf; rw [hln, ← hy, if_pos h]
    rw [e0, e1]
    have HV := Lib.hid h.1
    have HC := Lib.hid (dcode_ok h.1 h.2)
    have h1 := h.1.2.1
    have HY := Lib.hid hy.symm
    have hy2 : -2000 ≤ y ∧ y ≤ 2000 := ⟨hd.2.2.1, hd.2.2.2⟩
    obtain ⟨hy2, hy3⟩ := hy2
    obtain ⟨hl1, hl2⟩ := hl
    clear e0 e1 h hd hy
    by_cases g : 0 ≤ y - a1
    · rw [if_pos g, if_pos g]
      go_enter Try.func27, Try.ntmps27
      go_wp2_with (first | (go_at_call 64; refine (dlI_any _ _).mono ?_; rintro el wl ⟨rfl, rfl⟩) | (go_at_call 57; refine (dikeCode_t _ _ _ xa0 _ (dlv a1) _ ha0 ((RA.out.below (by repeat (first | assumption | exact Below.refl _ _ | (refine Below.setCell ?_ (by first | omega | (simp; done) | (simp; omega)) _) | apply below_drewN | apply Below.drew | (refine Below.alloc ?_ (by first | omega | (simp; done) | (simp; omega)) _)))).mono (by first | omega | (simp; done) | (simp; omega))) (fun _ => rfl) _ HC.out).mono ?_; rintro ed W2 ⟨rfl, b2⟩; have s2 : w.heap.size ≤ W2.heap.size := (by have := b2.size; (try simp at this); omega); have d2 : Below w.heap.size w W2 := (by repeat (first | assumption | exact Below.refl _ _ | (refine Below.trans ?_ (b2.mono (by first | omega | (simp; done) | (simp; omega)))) | (refine Below.setCell ?_ (by first | omega | (simp; done) | (simp; omega)) _) | apply below_drewN | apply Below.drew | (refine Below.alloc ?_ (by first | omega | (simp; done) | (simp; omega)) _)))) | (go_at_call 65; refine (lowestCrest_t _ _ _ xa0 _ ha0 h1 ((RA.out.below d2).mono (by first | omega | (simp; done) | (simp; omega)))).mono ?_; rintro e3 W3 ⟨rfl, b3⟩; rw [HY.out]))
      go_ret2
      exact ⟨rfl, (by repeat (first | assumption | exact Below.refl _ _ | (refine Below.trans ?_ (b3.mono (by first | omega | (simp; done) | (simp; omega)))) | (refine Below.trans ?_ (b2.mono (by first | omega | (simp; done) | (simp; omega)))) | (refine Below.setCell ?_ (by first | omega | (simp; done) | (simp; omega)) _) | apply below_drewN | apply Below.drew | (refine Below.alloc ?_ (by first | omega | (simp; done) | (simp; omega)) _)))⟩
    · rw [if_neg g, if_neg g]
      go_enter Try.func27, Try.ntmps27
      go_wp2_with (first | (go_at_call 64; refine (dlI_any _ _).mono ?_; rintro el wl ⟨rfl, rfl⟩) | (go_at_call 57; refine (dikeCode_t _ _ _ xa0 _ (dlv a1) _ ha0 ((RA.out.below (by repeat (first | assumption | exact Below.refl _ _ | (refine Below.setCell ?_ (by first | omega | (simp; done) | (simp; omega)) _) | apply below_drewN | apply Below.drew | (refine Below.alloc ?_ (by first | omega | (simp; done) | (simp; omega)) _)))).mono (by first | omega | (simp; done) | (simp; omega))) (fun _ => rfl) _ HC.out).mono ?_; rintro ed W2 ⟨rfl, b2⟩; have s2 : w.heap.size ≤ W2.heap.size := (by have := b2.size; (try simp at this); omega); have d2 : Below w.heap.size w W2 := (by repeat (first | assumption | exact Below.refl _ _ | (refine Below.trans ?_ (b2.mono (by first | omega | (simp; done) | (simp; omega)))) | (refine Below.setCell ?_ (by first | omega | (simp; done) | (simp; omega)) _) | apply below_drewN | apply Below.drew | (refine Below.alloc ?_ (by first | omega | (simp; done) | (simp; omega)) _)))) | (go_at_call 65; refine (lowestCrest_t _ _ _ xa0 _ ha0 h1 ((RA.out.below d2).mono (by first | omega | (simp; done) | (simp; omega)))).mono ?_; rintro e3 W3 ⟨rfl, b3⟩; rw [HY.out]))
      go_ret2
      exact ⟨rfl, (by repeat (first | assumption | exact Below.refl _ _ | (refine Below.trans ?_ (b3.mono (by first | omega | (simp; done) | (simp; omega)))) | (refine Below.trans ?_ (b2.mono (by first | omega | (simp; done) | (simp; omega)))) | (refine Below.setCell ?_ (by first | omega | (simp; done) | (simp; omega)) _) | apply below_drewN | apply Below.drew | (refine Below.alloc ?_ (by first | omega | (simp; done) | (simp; omega)) _)))⟩
  · have e0 : r0_FreeboardOf xa0 a1 = 0 := by unfold r0_FreeboardOf; rw [hln, if_neg h]
    have e1 : r1_FreeboardOf xa0 a1 = dcode la0 xa0 (dlv a1) := by unfold r1_FreeboardOf; rw [hln, if_neg h]
    rw [e0, e1]
    have e2 := dcode_ne h
    obtain ⟨C, hC⟩ : ∃ C, dcode la0 xa0 (dlv a1) = C := ⟨_, rfl⟩
    rw [hC] at e2 ⊢
    have HC := Lib.hid hC
    clear e0 e1 h hC
    go_enter Try.func27, Try.ntmps27
    go_wp2_with (first | (go_at_call 64; refine (dlI_any _ _).mono ?_; rintro el wl ⟨rfl, rfl⟩) | (go_at_call 57; refine (dikeCode_t _ _ _ xa0 _ (dlv a1) _ ha0 ((RA.out.below (by repeat (first | assumption | exact Below.refl _ _ | (refine Below.setCell ?_ (by first | omega | (simp; done) | (simp; omega)) _) | apply below_drewN | apply Below.drew | (refine Below.alloc ?_ (by first | omega | (simp; done) | (simp; omega)) _)))).mono (by first | omega | (simp; done) | (simp; omega))) (fun _ => rfl) _ HC.out).mono ?_; rintro ed W2 ⟨rfl, b2⟩; have s2 : w.heap.size ≤ W2.heap.size := (by have := b2.size; (try simp at this); omega); have d2 : Below w.heap.size w W2 := (by repeat (first | assumption | exact Below.refl _ _ | (refine Below.trans ?_ (b2.mono (by first | omega | (simp; done) | (simp; omega)))) | (refine Below.setCell ?_ (by first | omega | (simp; done) | (simp; omega)) _) | apply below_drewN | apply Below.drew | (refine Below.alloc ?_ (by first | omega | (simp; done) | (simp; omega)) _)))))
    go_ret2
    exact ⟨rfl, (by repeat (first | assumption | exact Below.refl _ _ | (refine Below.trans ?_ (b2.mono (by first | omega | (simp; done) | (simp; omega)))) | (refine Below.setCell ?_ (by first | omega | (simp; done) | (simp; omega)) _) | apply below_drewN | apply Below.drew | (refine Below.alloc ?_ (by first | omega | (simp; done) | (simp; omega)) _)))⟩

end Go.Proofs.Ytagnhlcgfcppjaa
