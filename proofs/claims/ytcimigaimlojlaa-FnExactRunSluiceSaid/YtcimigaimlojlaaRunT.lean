/- The states of a sluice: the model's contract. -/
import Derived.Test.YtcimigaimlojlaaRunS
namespace Go.Proofs.Ytcimigaimlojlaa
open Go.RowKit

set_option maxHeartbeats 1600000 in
theorem runS_no (a0_0 a0_1 : Int) (a1 : Option Addr) (la1 ca1 : Nat) (xa1 : List Int) (a2 : Option Addr) (la2 ca2 : Nat) (xa2 : List Int) (a3 : Option Addr) (la3 ca3 : Nat) (xa3 : List Int) (w : World) (ha1 : la1 ≤ 1048576) (ha2 : la2 ≤ 1048576) (ha3 : la3 ≤ 1048576) (ra1 : Rd w w.heap.size a1 la1 xa1) (ra2 : Rd w w.heap.size a2 la2 xa2) (ra3 : Rd w w.heap.size a3 la3 xa3) (h : ¬ (slOk a0_0 a0_1 ∧ hrOk la2 la3 xa2 xa3)) (C : Int) (hC : C = sc3 (slOk a0_0 a0_1) (hrOk la2 la3 xa2 xa3)) :
    Calls Try.prog 16 #[.agg #[.int .i64 a0_0, .int .i64 a0_1], .slice a1 la1 ca1, .slice a2 la2 ca2, .slice a3 la3 ca3] w fun e w' => e = .returned (.tuple #[.slice none 0 0, .int .i64 C]) ∧ Below w.heap.size w w' := by
  have RA := Lib.hid ra1
  have RB := Lib.hid ra2
  have RC := Lib.hid ra3
  clear ra1 ra2 ra3
  have HC := Lib.hid hC
  have h2 := sc3_ne h
  rw [← hC] at h2
  have e4 : (C == 0) = false := by simpa using h2
  have e5 : (C != 0) = true := by simpa using h2
  clear h hC h2
  go_enter Try.func16, Try.ntmps16
  go_wp2_with (go_at_call 52; refine (l09Series_t _ _ _ _ _ _ _ _ xa2 xa3 _ ha2 ha3 ((RB.out.below (by repeat (first | assumption | exact Below.refl _ _ | (refine Below.setCell ?_ (by first | omega | (simp; done) | (simp; omega)) _) | apply below_drewN | apply Below.drew | (refine Below.alloc ?_ (by first | omega | (simp; done) | (simp; omega)) _)))).mono (by first | omega | (simp; done) | (simp; omega))) ((RC.out.below (by repeat (first | assumption | exact Below.refl _ _ | (refine Below.setCell ?_ (by first | omega | (simp; done) | (simp; omega)) _) | apply below_drewN | apply Below.drew | (refine Below.alloc ?_ (by first | omega | (simp; done) | (simp; omega)) _)))).mono (by first | omega | (simp; done) | (simp; omega))) C HC.out).mono ?_; rintro eo w0 ⟨rfl, b0⟩; obtain ⟨k0, f0⟩ := bcell b0; have p0 : w0.cell? ⟨w.heap.size, 0, none⟩ = some (.int .i64 a0_0) := (by rw [k0 _ _ (by first | omega | (simp; done) | (simp; omega))]; first | (simp; done) | go_simp); have pf0 : w0.frozen? ⟨w.heap.size, 0, none⟩ = false := (by rw [f0 _ _ (by first | omega | (simp; done) | (simp; omega))]; first | (simp; done) | go_simp); have p1 : w0.cell? ⟨w.heap.size, 1, none⟩ = some (.int .i64 a0_1) := (by rw [k0 _ _ (by first | omega | (simp; done) | (simp; omega))]; first | (simp; done) | go_simp); have pf1 : w0.frozen? ⟨w.heap.size, 1, none⟩ = false := (by rw [f0 _ _ (by first | omega | (simp; done) | (simp; omega))]; first | (simp; done) | go_simp); have d0 : Below w.heap.size w w0 := (by repeat (first | assumption | exact Below.refl _ _ | (refine Below.trans ?_ (b0.mono (by first | omega | (simp; done) | (simp; omega)))) | (refine Below.setCell ?_ (by first | omega | (simp; done) | (simp; omega)) _) | apply below_drewN | apply Below.drew | (refine Below.alloc ?_ (by first | omega | (simp; done) | (simp; omega)) _))); have s0 : w.heap.size < w0.heap.size := (by have := b0.size; (try simp at this); omega); clear k0 f0 b0)
  go_loop [10, 11] (fun op i => op = .int .i64 C ∧ i = .int .i64 0) (fun _ _ => 0)
  case atStart => exact ⟨rfl, rfl⟩
  case round =>
    obtain ⟨rfl, rfl⟩ := hrel
    by_cases hlt : 0 < la1
    · have e9 : decide ((0 : Int) < (la1 : Int)) = true := by simp; omega
      go_wp2
      exact bodyPost_ret (v := .tuple #[.slice none 0 0, .int .i64 C]) (by simp [results, Try.results16, go_sem]) rfl ⟨rfl, (by repeat (first | assumption | exact Below.refl _ _ | (refine Below.trans ?_ (d0.mono (by first | omega | (simp; done) | (simp; omega)))) | (refine Below.setCell ?_ (by first | omega | (simp; done) | (simp; omega)) _) | apply below_drewN | apply Below.drew | (refine Below.alloc ?_ (by first | omega | (simp; done) | (simp; omega)) _)))⟩
    · have e9 : decide ((0 : Int) < (la1 : Int)) = false := by simp; omega
      go_wp2
      exact bodyPost_ret (v := .tuple #[.slice none 0 0, .int .i64 C]) (by simp [results, Try.results16, go_sem]) rfl ⟨rfl, (by repeat (first | assumption | exact Below.refl _ _ | (refine Below.trans ?_ (d0.mono (by first | omega | (simp; done) | (simp; omega)))) | (refine Below.setCell ?_ (by first | omega | (simp; done) | (simp; omega)) _) | apply below_drewN | apply Below.drew | (refine Below.alloc ?_ (by first | omega | (simp; done) | (simp; omega)) _)))⟩

set_option maxHeartbeats 1600000 in
theorem runS_len (a0_0 a0_1 : Int) (a1 : Option Addr) (la1 ca1 : Nat) (xa1 : List Int) (a2 : Option Addr) (la2 ca2 : Nat) (xa2 : List Int) (a3 : Option Addr) (la3 ca3 : Nat) (xa3 : List Int) (w : World) (ha1 : la1 ≤ 1048576) (ha2 : la2 ≤ 1048576) (ha3 : la3 ≤ 1048576) (ra1 : Rd w w.heap.size a1 la1 xa1) (ra2 : Rd w w.heap.size a2 la2 xa2) (ra3 : Rd w w.heap.size a3 la3 xa3) (h : slOk a0_0 a0_1 ∧ hrOk la2 la3 xa2 xa3) (hl : la1 ≠ la2) :
    Calls Try.prog 16 #[.agg #[.int .i64 a0_0, .int .i64 a0_1], .slice a1 la1 ca1, .slice a2 la2 ca2, .slice a3 la3 ca3] w fun e w' => e = .returned (.tuple #[.slice none 0 0, .int .i64 2]) ∧ Below w.heap.size w w' := by
  have RA := Lib.hid ra1
  have RB := Lib.hid ra2
  have RC := Lib.hid ra3
  clear ra1 ra2 ra3
  have HC := Lib.hid (show (0 : Int) = sc3 (slOk a0_0 a0_1) (hrOk la2 la3 xa2 xa3) from (sc3_ok h.1 h.2).symm)
  have e1 : ((la1 : Int) != (la2 : Int)) = true := by simp; omega
  clear h hl
  go_enter Try.func16, Try.ntmps16
  go_wp2_with (go_at_call 52; refine (l09Series_t _ _ _ _ _ _ _ _ xa2 xa3 _ ha2 ha3 ((RB.out.below (by repeat (first | assumption | exact Below.refl _ _ | (refine Below.setCell ?_ (by first | omega | (simp; done) | (simp; omega)) _) | apply below_drewN | apply Below.drew | (refine Below.alloc ?_ (by first | omega | (simp; done) | (simp; omega)) _)))).mono (by first | omega | (simp; done) | (simp; omega))) ((RC.out.below (by repeat (first | assumption | exact Below.refl _ _ | (refine Below.setCell ?_ (by first | omega | (simp; done) | (simp; omega)) _) | apply below_drewN | apply Below.drew | (refine Below.alloc ?_ (by first | omega | (simp; done) | (simp; omega)) _)))).mono (by first | omega | (simp; done) | (simp; omega))) 0 HC.out).mono ?_; rintro eo w0 ⟨rfl, b0⟩; obtain ⟨k0, f0⟩ := bcell b0; have p0 : w0.cell? ⟨w.heap.size, 0, none⟩ = some (.int .i64 a0_0) := (by rw [k0 _ _ (by first | omega | (simp; done) | (simp; omega))]; first | (simp; done) | go_simp); have pf0 : w0.frozen? ⟨w.heap.size, 0, none⟩ = false := (by rw [f0 _ _ (by first | omega | (simp; done) | (simp; omega))]; first | (simp; done) | go_simp); have p1 : w0.cell? ⟨w.heap.size, 1, none⟩ = some (.int .i64 a0_1) := (by rw [k0 _ _ (by first | omega | (simp; done) | (simp; omega))]; first | (simp; done) | go_simp); have pf1 : w0.frozen? ⟨w.heap.size, 1, none⟩ = false := (by rw [f0 _ _ (by first | omega | (simp; done) | (simp; omega))]; first | (simp; done) | go_simp); have d0 : Below w.heap.size w w0 := (by repeat (first | assumption | exact Below.refl _ _ | (refine Below.trans ?_ (b0.mono (by first | omega | (simp; done) | (simp; omega)))) | (refine Below.setCell ?_ (by first | omega | (simp; done) | (simp; omega)) _) | apply below_drewN | apply Below.drew | (refine Below.alloc ?_ (by first | omega | (simp; done) | (simp; omega)) _))); have s0 : w.heap.size < w0.heap.size := (by have := b0.size; (try simp at this); omega); clear k0 f0 b0)
  go_loop [10, 11] (fun op i => op = .int .i64 2 ∧ i = .int .i64 0) (fun _ _ => 0)
  case atStart => exact ⟨rfl, rfl⟩
  case round =>
    obtain ⟨rfl, rfl⟩ := hrel
    by_cases hlt : 0 < la1
    · have e9 : decide ((0 : Int) < (la1 : Int)) = true := by simp; omega
      go_wp2
      exact bodyPost_ret (v := .tuple #[.slice none 0 0, .int .i64 2]) (by simp [results, Try.results16, go_sem]) rfl ⟨rfl, (by repeat (first | assumption | exact Below.refl _ _ | (refine Below.trans ?_ (d0.mono (by first | omega | (simp; done) | (simp; omega)))) | (refine Below.setCell ?_ (by first | omega | (simp; done) | (simp; omega)) _) | apply below_drewN | apply Below.drew | (refine Below.alloc ?_ (by first | omega | (simp; done) | (simp; omega)) _)))⟩
    · have e9 : decide ((0 : Int) < (la1 : Int)) = false := by simp; omega
      go_wp2
      exact bodyPost_ret (v := .tuple #[.slice none 0 0, .int .i64 2]) (by simp [results, Try.results16, go_sem]) rfl ⟨rfl, (by repeat (first | assumption | exact Below.refl _ _ | (refine Below.trans ?_ (d0.mono (by first | omega | (simp; done) | (simp; omega)))) | (refine Below.setCell ?_ (by first | omega | (simp; done) | (simp; omega)) _) | apply below_drewN | apply Below.drew | (refine Below.alloc ?_ (by first | omega | (simp; done) | (simp; omega)) _)))⟩

set_option maxHeartbeats 1600000 in
theorem runS_ord (a0_0 a0_1 : Int) (a1 : Option Addr) (la1 ca1 : Nat) (xa1 : List Int) (a2 : Option Addr) (la2 ca2 : Nat) (xa2 : List Int) (a3 : Option Addr) (la3 ca3 : Nat) (xa3 : List Int) (w : World) (ha1 : la1 ≤ 1048576) (ha2 : la2 ≤ 1048576) (ha3 : la3 ≤ 1048576) (ra1 : Rd w w.heap.size a1 la1 xa1) (ra2 : Rd w w.heap.size a2 la2 xa2) (ra3 : Rd w w.heap.size a3 la3 xa3) (h : slOk a0_0 a0_1 ∧ hrOk la2 la3 xa2 xa3) (hl : la1 = la2) (hn : ¬ allIn 0 2 la1 xa1) :
    Calls Try.prog 16 #[.agg #[.int .i64 a0_0, .int .i64 a0_1], .slice a1 la1 ca1, .slice a2 la2 ca2, .slice a3 la3 ca3] w fun e w' => e = .returned (.tuple #[.slice none 0 0, .int .i64 2]) ∧ Below w.heap.size w w' := by
  have RA := Lib.hid ra1
  have RB := Lib.hid ra2
  have RC := Lib.hid ra3
  clear ra1 ra2 ra3
  have HC := Lib.hid (show (0 : Int) = sc3 (slOk a0_0 a0_1) (hrOk la2 la3 xa2 xa3) from (sc3_ok h.1 h.2).symm)
  subst hl
  have HNO := Lib.hid hn
  clear h hn
  go_enter Try.func16, Try.ntmps16
  go_wp2_with (go_at_call 52; refine (l09Series_t _ _ _ _ _ _ _ _ xa2 xa3 _ ha2 ha3 ((RB.out.below (by repeat (first | assumption | exact Below.refl _ _ | (refine Below.setCell ?_ (by first | omega | (simp; done) | (simp; omega)) _) | apply below_drewN | apply Below.drew | (refine Below.alloc ?_ (by first | omega | (simp; done) | (simp; omega)) _)))).mono (by first | omega | (simp; done) | (simp; omega))) ((RC.out.below (by repeat (first | assumption | exact Below.refl _ _ | (refine Below.setCell ?_ (by first | omega | (simp; done) | (simp; omega)) _) | apply below_drewN | apply Below.drew | (refine Below.alloc ?_ (by first | omega | (simp; done) | (simp; omega)) _)))).mono (by first | omega | (simp; done) | (simp; omega))) 0 HC.out).mono ?_; rintro eo w0 ⟨rfl, b0⟩; obtain ⟨k0, f0⟩ := bcell b0; have p0 : w0.cell? ⟨w.heap.size, 0, none⟩ = some (.int .i64 a0_0) := (by rw [k0 _ _ (by first | omega | (simp; done) | (simp; omega))]; first | (simp; done) | go_simp); have pf0 : w0.frozen? ⟨w.heap.size, 0, none⟩ = false := (by rw [f0 _ _ (by first | omega | (simp; done) | (simp; omega))]; first | (simp; done) | go_simp); have p1 : w0.cell? ⟨w.heap.size, 1, none⟩ = some (.int .i64 a0_1) := (by rw [k0 _ _ (by first | omega | (simp; done) | (simp; omega))]; first | (simp; done) | go_simp); have pf1 : w0.frozen? ⟨w.heap.size, 1, none⟩ = false := (by rw [f0 _ _ (by first | omega | (simp; done) | (simp; omega))]; first | (simp; done) | go_simp); have d0 : Below w.heap.size w w0 := (by repeat (first | assumption | exact Below.refl _ _ | (refine Below.trans ?_ (b0.mono (by first | omega | (simp; done) | (simp; omega)))) | (refine Below.setCell ?_ (by first | omega | (simp; done) | (simp; omega)) _) | apply below_drewN | apply Below.drew | (refine Below.alloc ?_ (by first | omega | (simp; done) | (simp; omega)) _))); have s0 : w.heap.size < w0.heap.size := (by have := b0.size; (try simp at this); omega); clear k0 f0 b0)
  go_loop [10, 11] (fun op i => ∃ k : Nat, k ≤ la1 ∧ i = .int .i64 (k : Int) ∧ ((op = .int .i64 0 ∧ Hid (∀ j, j < k → 0 ≤ xa1.getD j 0 ∧ xa1.getD j 0 ≤ 2)) ∨ op = .int .i64 2)) (fun _ i => la1 - (intOf i).toNat)
  case atStart => exact ⟨0, by omega, rfl, .inl ⟨rfl, fun j hj => absurd hj (by omega)⟩⟩
  case round =>
    obtain ⟨k, hk, rfl, hop⟩ := hrel
    rcases hop with ⟨rfl, hall⟩ | rfl
    · by_cases hlt : k < la1
      · obtain ⟨ab, o, rfl, hbB, hc⟩ := (RA.out.below d0).2 (by omega)
        have c1 := hc k hlt
        clear hc
        obtain ⟨x, hx⟩ : ∃ x, x = xa1.getD k 0 := ⟨_, rfl⟩
        rw [← hx] at c1
        have HX := Lib.hid hx
        clear hx
        by_cases g : 0 ≤ x ∧ x ≤ 2
        · obtain ⟨g1, g2⟩ := g
          go_wp2_with (go_at_call 46; first | (refine (in_t _ _ _ _ (by omega)).mono ?_; rintro e w' ⟨rfl, rfl⟩) | (refine (in_f _ _ _ _ (by omega)).mono ?_; rintro e w' ⟨rfl, rfl⟩))
          go_round
          case rel => exact ⟨k + 1, by omega, by go_num, .inl ⟨rfl, fun j hj => by
            by_cases e : j = k
            · subst e; rw [← HX.out]; exact ⟨g1, g2⟩
            · exact hall.out j (by omega)⟩⟩
          case measure => simp [intOf]; omega
        · have g3 : x < 0 ∨ 2 < x := by omega
          clear g
          go_wp2_with (go_at_call 46; first | (refine (in_t _ _ _ _ (by omega)).mono ?_; rintro e w' ⟨rfl, rfl⟩) | (refine (in_f _ _ _ _ (by omega)).mono ?_; rintro e w' ⟨rfl, rfl⟩))
          go_round
          case rel => exact ⟨k + 1, by omega, by go_num, .inr rfl⟩
          case measure => simp [intOf]; omega
      · obtain rfl : la1 = k := by omega
        exact absurd hall.out HNO.out
    · by_cases hlt : k < la1
      · go_wp2
        exact bodyPost_ret (v := .tuple #[.slice none 0 0, .int .i64 2]) (by simp [results, Try.results16, go_sem]) rfl ⟨rfl, (by repeat (first | assumption | exact Below.refl _ _ | (refine Below.trans ?_ (d0.mono (by first | omega | (simp; done) | (simp; omega)))) | (refine Below.setCell ?_ (by first | omega | (simp; done) | (simp; omega)) _) | apply below_drewN | apply Below.drew | (refine Below.alloc ?_ (by first | omega | (simp; done) | (simp; omega)) _)))⟩
      · obtain rfl : la1 = k := by omega
        go_wp2
        exact bodyPost_ret (v := .tuple #[.slice none 0 0, .int .i64 2]) (by simp [results, Try.results16, go_sem]) rfl ⟨rfl, (by repeat (first | assumption | exact Below.refl _ _ | (refine Below.trans ?_ (d0.mono (by first | omega | (simp; done) | (simp; omega)))) | (refine Below.setCell ?_ (by first | omega | (simp; done) | (simp; omega)) _) | apply below_drewN | apply Below.drew | (refine Below.alloc ?_ (by first | omega | (simp; done) | (simp; omega)) _)))⟩

set_option maxHeartbeats 1600000 in
theorem specC_RunSluice (a0_0 : Int) (a0_1 : Int) (a1 : Option Addr) (la1 ca1 : Nat) (xa1 : List Int) (a2 : Option Addr) (la2 ca2 : Nat) (xa2 : List Int) (a3 : Option Addr) (la3 ca3 : Nat) (xa3 : List Int) (w : World) (ha0_0 : (Lit.int .i64 a0_0).wf = true) (ha0_1 : (Lit.int .i64 a0_1).wf = true) (ha1 : la1 ≤ 1048576) (ra1 : Rd w w.heap.size a1 la1 xa1) (fa1 : Wf xa1) (ha2 : la2 ≤ 1048576) (ra2 : Rd w w.heap.size a2 la2 xa2) (fa2 : Wf xa2) (ha3 : la3 ≤ 1048576) (ra3 : Rd w w.heap.size a3 la3 xa3) (fa3 : Wf xa3) :
    Calls Try.prog 16 #[.agg #[.int .i64 a0_0, .int .i64 a0_1], .slice a1 la1 ca1, .slice a2 la2 ca2, .slice a3 la3 ca3] w fun e w' => ∃ B0 dB0, e = .returned (.tuple #[.slice B0 (r0_RunSluice a0_0 a0_1 xa1 xa2 xa3).length dB0, .int .i64 (r1_RunSluice a0_0 a0_1 xa1 xa2 xa3)]) ∧ Below w.heap.size w w' ∧ Wr_Gate w' w.heap.size B0 (r0_RunSluice a0_0 a0_1 xa1 xa2 xa3).length (r0_RunSluice a0_0 a0_1 xa1 xa2 xa3) := by
  have hl1 := ra1.1
  have hl2 := ra2.1
  have hl3 := ra3.1
  by_cases h : slOk a0_0 a0_1 ∧ rsOk la1 la2 la3 xa1 xa2 xa3
  · obtain ⟨hs, ⟨hh, e⟩, ho⟩ := h
    have e2 : la2 = la3 := hh.1.1
    subst e
    subst e2
    have hr : slOk a0_0 a0_1 ∧ rsOk xa1.length xa2.length xa3.length xa1 xa2 xa3 := by rw [hl1, hl2, hl3]; exact ⟨hs, ⟨hh, rfl⟩, ho⟩
    refine runS_ok a0_0 a0_1 a1 la1 ca1 xa1 a2 ca2 xa2 a3 ca3 xa3 w ra1 ra2 ra3 hs hh ho _ _ (fun q => ?_) (fun q => ?_) ?_
    · unfold r0_RunSluice; rw [hl1] at hr ⊢; rw [if_pos ⟨hr, q⟩]
    · unfold r0_RunSluice; rw [hl1] at hr ⊢; rw [if_neg (fun g => q g.2)]
    · unfold r1_RunSluice; rw [hl1] at hr ⊢; rw [if_pos hr]
  · have hr : ¬ (slOk a0_0 a0_1 ∧ rsOk xa1.length xa2.length xa3.length xa1 xa2 xa3) := by rw [hl1, hl2, hl3]; exact h
    have e0 : r0_RunSluice a0_0 a0_1 xa1 xa2 xa3 = [] := by unfold r0_RunSluice; rw [if_neg (fun g => hr g.1)]
    have e1 : r1_RunSluice a0_0 a0_1 xa1 xa2 xa3 = sc3 (slOk a0_0 a0_1) (rsOk la1 la2 la3 xa1 xa2 xa3) := by unfold r1_RunSluice; rw [if_neg hr, hl1, hl2, hl3]
    rw [e0, e1]
    have fin : ∀ C, sc3 (slOk a0_0 a0_1) (rsOk la1 la2 la3 xa1 xa2 xa3) = C → (Calls Try.prog 16 #[.agg #[.int .i64 a0_0, .int .i64 a0_1], .slice a1 la1 ca1, .slice a2 la2 ca2, .slice a3 la3 ca3] w fun e w' => e = .returned (.tuple #[.slice none 0 0, .int .i64 C]) ∧ Below w.heap.size w w') → Calls Try.prog 16 #[.agg #[.int .i64 a0_0, .int .i64 a0_1], .slice a1 la1 ca1, .slice a2 la2 ca2, .slice a3 la3 ca3] w fun e w' => ∃ B0 dB0, e = .returned (.tuple #[.slice B0 ([] : List RGate).length dB0, .int .i64 (sc3 (slOk a0_0 a0_1) (rsOk la1 la2 la3 xa1 xa2 xa3))]) ∧ Below w.heap.size w w' ∧ Wr_Gate w' w.heap.size B0 ([] : List RGate).length [] := by
      intro C hC hk
      rw [hC]
      exact hk.mono fun _ _ g => ⟨none, 0, g.1, g.2, rfl, fun h => absurd h (by simp)⟩
    by_cases h2 : slOk a0_0 a0_1 ∧ hrOk la2 la3 xa2 xa3
    · have e3 : sc3 (slOk a0_0 a0_1) (rsOk la1 la2 la3 xa1 xa2 xa3) = 2 := sc3_no h2.1 (fun g => h ⟨h2.1, g⟩)
      by_cases hl : la1 = la2
      · exact fin 2 e3 (runS_ord a0_0 a0_1 a1 la1 ca1 xa1 a2 la2 ca2 xa2 a3 la3 ca3 xa3 w ha1 ha2 ha3 ra1 ra2 ra3 h2 hl (fun g => h ⟨h2.1, ⟨h2.2, hl⟩, g⟩))
      · exact fin 2 e3 (runS_len a0_0 a0_1 a1 la1 ca1 xa1 a2 la2 ca2 xa2 a3 la3 ca3 xa3 w ha1 ha2 ha3 ra1 ra2 ra3 h2 hl)
    · have e3 : sc3 (slOk a0_0 a0_1) (rsOk la1 la2 la3 xa1 xa2 xa3) = sc3 (slOk a0_0 a0_1) (hrOk la2 la3 xa2 xa3) := by
        unfold sc3
        by_cases q : slOk a0_0 a0_1
        · rw [if_pos q, if_pos q, if_neg (fun g => h ⟨q, g⟩), if_neg (fun g => h2 ⟨q, g⟩)]
        · rw [if_neg q, if_neg q]
      exact fin _ e3 (runS_no a0_0 a0_1 a1 la1 ca1 xa1 a2 la2 ca2 xa2 a3 la3 ca3 xa3 w ha1 ha2 ha3 ra1 ra2 ra3 h2 _ rfl)

end Go.Proofs.Ytcimigaimlojlaa
