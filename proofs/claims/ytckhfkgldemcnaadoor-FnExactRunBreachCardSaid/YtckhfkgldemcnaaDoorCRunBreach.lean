/- RunBreach of the program. -/
import Derived.Test.YtckhfkgldemcnaaDoorRbS
import Derived.Test.YtckhfkgldemcnaaDoorRbI
import Derived.Test.YtckhfkgldemcnaaDoorBreK
namespace Go.Proofs.YtckhfkgldemcnaaDoor
open Go.RowKit

theorem wr_tail {W : World} {lo g n : Nat} {x : RBreach} {xs : List RBreach} (h : Wr_Breach W lo (some ⟨g, 0, none⟩) (n + 1) (x :: xs)) : Wr_Breach W lo (some ⟨g, 3, none⟩) n xs := by
  have hl := h.len
  refine ⟨by rw [csBreach_len]; have : xs.length = n := by simpa using hl
             omega, fun hn => ?_⟩
  obtain ⟨b, off, e, h1, h2, hc⟩ := h.2 (by omega)
  injection e with e
  injection e with e1 e2
  subst e1 e2
  refine ⟨g, 3, rfl, h1, h2, fun j hj => ?_⟩
  have hcs : csBreach (x :: xs) = .int .i64 x.f0 :: .int .i64 x.f1 :: .int .i64 x.f2 :: csBreach xs := rfl
  have := hc (3 + j) (by rw [hcs]; simp; omega)
  rw [hcs, show 0 + (3 + j) = 3 + j by omega] at this
  rw [show (3 + j) = j + 1 + 1 + 1 by omega] at this ⊢
  simpa using this

set_option maxRecDepth 100000 in
set_option maxHeartbeats 6400000 in
theorem implC_RunBreach (a0_0 : Option Addr) (la0_0 ca0_0 : Nat) (xa0_0 : List Int) (a0_1 : Option Addr) (la0_1 ca0_1 : Nat) (xa0_1 : List Int) (a1_0 : Int) (a1_1 : Int) (a1_2 : Int) (a2 : Option Addr) (la2 ca2 : Nat) (xa2 : List Int) (a3 : Option Addr) (la3 ca3 : Nat) (xa3 : List Int) (w : World) (ha0_0 : la0_0 ≤ 1048576) (ra0_0 : Rd w w.heap.size a0_0 la0_0 xa0_0) (fa0_0 : Wf xa0_0) (ha0_1 : la0_1 ≤ 1048576) (ra0_1 : Rd w w.heap.size a0_1 la0_1 xa0_1) (fa0_1 : Wf xa0_1) (ha1_0 : (Lit.int .i64 a1_0).wf = true) (ha1_1 : (Lit.int .i64 a1_1).wf = true) (ha1_2 : (Lit.int .i64 a1_2).wf = true) (ha2 : la2 ≤ 1048576) (ra2 : Rd w w.heap.size a2 la2 xa2) (fa2 : Wf xa2) (ha3 : la3 ≤ 1048576) (ra3 : Rd w w.heap.size a3 la3 xa3) (fa3 : Wf xa3) (se0 se1 : Addr) (hsent : Sent w w.heap.size se0 se1) :
    Calls Tryd.prog 26 #[.agg #[.slice a0_0 la0_0 ca0_0, .slice a0_1 la0_1 ca0_1], .agg #[.int .i64 a1_0, .int .i64 a1_1, .int .i64 a1_2], .slice a2 la2 ca2, .slice a3 la3 ca3] w fun e w' => ∃ B0 dB0, e = .returned (.tuple #[.slice B0 (r0_RunBreach xa0_0 xa0_1 a1_0 a1_1 a1_2 xa2 xa3).length dB0, .int .i64 (r1_RunBreach xa0_0 xa0_1 a1_0 a1_1 a1_2 xa2 xa3)]) ∧ Below w.heap.size w w' ∧ Wr_Breach w' w.heap.size B0 (r0_RunBreach xa0_0 xa0_1 a1_0 a1_1 a1_2 xa2 xa3).length (r0_RunBreach xa0_0 xa0_1 a1_0 a1_1 a1_2 xa2 xa3) := by
  have RA := Lib.hid ra0_0
  have RB := Lib.hid ra0_1
  have RO := Lib.hid ra2
  have RS := Lib.hid ra3
  have hlo := RO.out.1
  have hls := RS.out.1
  clear ra0_0 ra0_1 ra2 ra3
  have HS := Lib.hid hsent
  clear hsent
  obtain ⟨kv, hkv⟩ : ∃ k, k = r1_RunBreach xa0_0 xa0_1 a1_0 a1_1 a1_2 xa2 xa3 := ⟨_, rfl⟩
  have HK := Lib.hid (show kv = bcode xa0_0 xa0_1 a1_0 a1_1 a1_2 (stepsOk xa2 ∧ (xa3.length = xa2.length ∧ thrOk xa3)) from hkv)
  rw [← hkv]
  clear hkv
  obtain ⟨R0, hR0⟩ : ∃ R, R = r0_RunBreach xa0_0 xa0_1 a1_0 a1_1 a1_2 xa2 xa3 := ⟨_, rfl⟩
  have HR := Lib.hid hR0
  rw [← hR0]
  clear hR0
  by_cases h : rbOk xa0_0 xa0_1 a1_0 a1_1 a1_2 xa2 xa3
  · have hk0 : kv = 0 := by rw [HK.out]; unfold bcode; rw [if_pos h.1, if_pos ⟨h.2.1, h.2.2.1, h.2.2.2⟩]
    have HR1 := Lib.hid (show R0 = stN xa0_0 xa0_1 a1_0 a1_1 a1_2 xa2 (fun k => xa3.getD k 0) la2 by rw [HR.out]; unfold r0_RunBreach; rw [if_pos h, hlo])
    have HB := Lib.hid h.1
    have HO := Lib.hid h.2.1
    have HH := Lib.hid (rb_hrs h)
    have h100 := h.2.1.2
    have h3 : la3 = la2 := by have := h.2.2.1; omega
    have HKK := Lib.hid (hk0.symm.trans HK.out)
    have HA := Lib.hid (show true = decide (stepsOk xa2) from (decide_eq_true h.2.1).symm)
    have HT := Lib.hid (show true = decide (thrOk xa3) from (decide_eq_true h.2.2.2).symm)
    have HP := Lib.hid (show true = decide (stepsOk xa2 ∧ (xa3.length = xa2.length ∧ thrOk xa3)) from (decide_eq_true ⟨h.2.1, h.2.2.1, h.2.2.2⟩).symm)
    subst hk0
    clear h HK HR
    obtain rfl : la2 = la3 := h3.symm
    go_enter Tryd.func26, Tryd.ntmps26
    go_wp2_with (first
          | (go_at_call 59; refine (asI_any a2 la2 ca2 xa2 _ ha2 ((RO.out.below (by repeat (first | assumption | exact Below.refl _ _ | (refine Below.setCell ?_ (by first | omega | (simp; done) | (simp; omega)) _) | apply below_drewN | apply Below.drew | (refine Below.alloc ?_ (by first | omega | (simp; done) | (simp; omega)) _)))).mono (by first | omega | (simp; done) | (simp; omega))) true HA.out).mono ?_; rintro e1v V1 ⟨rfl, B1⟩; have D1 : Below w.heap.size w V1 := (by repeat (first | assumption | exact Below.refl _ _ | (refine Below.trans ?_ (B1.mono (by first | omega | (simp; done) | (simp; omega)))) | (refine Below.setCell ?_ (by first | omega | (simp; done) | (simp; omega)) _) | apply below_drewN | apply Below.drew | (refine Below.alloc ?_ (by first | omega | (simp; done) | (simp; omega)) _))); have q1_0 : V1.cell? ⟨w.heap.size, 0, none⟩ = some (.slice a0_0 la0_0 ca0_0) := (B1.cell (p := ⟨w.heap.size, 0, none⟩) (by first | omega | (simp; done) | (simp; omega))).trans (by first | (simp; done) | go_simp); have q1_1 : V1.cell? ⟨w.heap.size, 1, none⟩ = some (.slice a0_1 la0_1 ca0_1) := (B1.cell (p := ⟨w.heap.size, 1, none⟩) (by first | omega | (simp; done) | (simp; omega))).trans (by first | (simp; done) | go_simp); have q1_2 : V1.cell? ⟨w.heap.size + 1, 0, none⟩ = some (.int .i64 a1_0) := (B1.cell (p := ⟨w.heap.size + 1, 0, none⟩) (by first | omega | (simp; done) | (simp; omega))).trans (by first | (simp; done) | go_simp); have q1_3 : V1.cell? ⟨w.heap.size + 1, 1, none⟩ = some (.int .i64 a1_1) := (B1.cell (p := ⟨w.heap.size + 1, 1, none⟩) (by first | omega | (simp; done) | (simp; omega))).trans (by first | (simp; done) | go_simp); have q1_4 : V1.cell? ⟨w.heap.size + 1, 2, none⟩ = some (.int .i64 a1_2) := (B1.cell (p := ⟨w.heap.size + 1, 2, none⟩) (by first | omega | (simp; done) | (simp; omega))).trans (by first | (simp; done) | go_simp); have s1 : w.heap.size + 1 < V1.heap.size := (by have := B1.size; (try simp at this); omega))
          | (go_at_call 55; refine (thI_any a3 la2 ca3 xa3 _ ha3 ((RS.out.below D1).mono (by omega)) true HT.out).mono ?_; rintro e2v V2 ⟨rfl, B2⟩; have D2 : Below w.heap.size w V2 := D1.trans (B2.mono (by omega)); have s2 := B2.size; have q2_0 := (B2.cell (p := ⟨w.heap.size, 0, none⟩) (by first | omega | (simp; done) | (simp; omega))).trans q1_0; have q2_1 := (B2.cell (p := ⟨w.heap.size, 1, none⟩) (by first | omega | (simp; done) | (simp; omega))).trans q1_1; have q2_2 := (B2.cell (p := ⟨w.heap.size + 1, 0, none⟩) (by first | omega | (simp; done) | (simp; omega))).trans q1_2; have q2_3 := (B2.cell (p := ⟨w.heap.size + 1, 1, none⟩) (by first | omega | (simp; done) | (simp; omega))).trans q1_3; have q2_4 := (B2.cell (p := ⟨w.heap.size + 1, 2, none⟩) (by first | omega | (simp; done) | (simp; omega))).trans q1_4)
          | (go_at_call 48; refine (bcI_any a0_0 la0_0 ca0_0 xa0_0 a0_1 la0_1 ca0_1 xa0_1 a1_0 a1_1 a1_2 _ _ ha0_0 ha0_1 (RA.out.below D2 |>.mono (by omega)) (RB.out.below D2 |>.mono (by omega)) (stepsOk xa2 ∧ (xa3.length = xa2.length ∧ thrOk xa3)) HP.out 0 HKK.out).mono ?_; rintro e3v V3 ⟨rfl, B3⟩; have D3 : Below w.heap.size w V3 := D2.trans (B3.mono (by omega)); have s3 := B3.size; have q3_0 := (B3.cell (p := ⟨w.heap.size, 0, none⟩) (by first | omega | (simp; done) | (simp; omega))).trans q2_0; have q3_1 := (B3.cell (p := ⟨w.heap.size, 1, none⟩) (by first | omega | (simp; done) | (simp; omega))).trans q2_1; have q3_2 := (B3.cell (p := ⟨w.heap.size + 1, 0, none⟩) (by first | omega | (simp; done) | (simp; omega))).trans q2_2; have q3_3 := (B3.cell (p := ⟨w.heap.size + 1, 1, none⟩) (by first | omega | (simp; done) | (simp; omega))).trans q2_3; have q3_4 := (B3.cell (p := ⟨w.heap.size + 1, 2, none⟩) (by first | omega | (simp; done) | (simp; omega))).trans q2_4))
    have PN := PBox.new V3 a1_0 a1_1 a1_2 0 0 a0_0 la0_0 ca0_0 a0_1 la0_1 ca0_1 (.slice a2 la2 ca2) (.slice a3 la2 ca3)
    have A3 : Below V3.heap.size V3 (V3.alloc (.cells #[.int .i64 a1_0, .int .i64 a1_1, .int .i64 a1_2, .slice a0_0 la0_0 ca0_0, .slice a0_1 la0_1 ca0_1, .slice a2 la2 ca2, .slice a3 la2 ca3, .int .i64 0, .int .i64 0] 62)) := Below.alloc (Below.refl _ _) (Nat.le_refl _) _
    generalize hY : V3.alloc (.cells #[.int .i64 a1_0, .int .i64 a1_1, .int .i64 a1_2, .slice a0_0 la0_0 ca0_0, .slice a0_1 la0_1 ca0_1, .slice a2 la2 ca2, .slice a3 la2 ca3, .int .i64 0, .int .i64 0] 62) = Y at PN A3 ⊢
    have hYs : Y.heap.size = V3.heap.size + 1 := by rw [← hY]; simp
    clear hY
    have A4 : Below Y.heap.size Y (Y.alloc (.cells #[.slice none 0 0] 40)) := Below.alloc (Below.refl _ _) (Nat.le_refl _) _
    have hc : (Y.alloc (.cells #[.slice none 0 0] 40)).cell? ⟨V3.heap.size + 1, 0, none⟩ = some (.slice none 0 0) := by rw [← hYs]; simp
    have hf : (Y.alloc (.cells #[.slice none 0 0] 40)).frozen? ⟨V3.heap.size + 1, 0, none⟩ = false := by rw [← hYs]; simp
    have hX : (Y.alloc (.cells #[.slice none 0 0] 40)).heap.size = V3.heap.size + 2 := by simp [hYs]
    have PX := PN.below A4
    have D5 : Below w.heap.size w (Y.alloc (.cells #[.slice none 0 0] 40)) := (D3.trans (A3.mono (by omega))).trans (A4.mono (by omega))
    have RK := Lib.hid (show RunOk (Y.alloc (.cells #[.slice none 0 0] 40)) V3.heap.size a0_0 la0_0 ca0_0 xa0_0 a0_1 la0_1 ca0_1 xa0_1 a1_0 a1_1 a1_2 a2 la2 ca2 a3 la2 ca3 xa2 (fun k => xa3.getD k 0) se0 se1 from
      ⟨PX, (RA.out.below D5).mono (by omega), (RB.out.below D5).mono (by omega), (RO.out.below D5).mono (by omega), ha0_0, ha0_1, by omega, Nat.le_refl _, ha2, fun k hk => by
        obtain ⟨tb, tq, e, htb, htc⟩ := (RS.out.below D5).2 (by omega)
        exact ⟨tb, tq, e, by omega, htc k hk⟩, HB.out, HH.out, (HS.out.below D5).mono (by omega)⟩)
    have D5H := Lib.hid D5
    generalize Y.alloc (.cells #[.slice none 0 0] 40) = X at RK hc hf hX D5H ⊢
    refine (runR_t X V3.heap.size a0_0 la0_0 ca0_0 xa0_0 a0_1 la0_1 ca0_1 xa0_1 a1_0 a1_1 a1_2 a2 la2 ca2 a3 la2 ca3 xa2 (fun k => xa3.getD k 0) se0 se1 RK.out hX hc hf).mono ?_
    rintro e5 W5 ⟨g, cap, rfl, ch5, yc, ow⟩
    have hcap : la2 + 1 ≤ cap := by
      obtain ⟨_, _, e, _, _, hnc⟩ := own_form' ow (by omega)
      injection e with _ _ e3
      omega
    have D6 := Lib.hid (show Below w.heap.size w W5 from D5H.out.trans (ch5.below (by omega) (by omega)))
    have HWR := Lib.hid (show Wr_Breach W5 w.heap.size (some ⟨g, 3, none⟩) la2 R0 by
      obtain ⟨A', c', eA, hw⟩ := own_wrBreach ow
      injection eA with eA _ _
      subst eA
      rw [stF_cons] at hw
      rw [HR1.out]
      exact (wr_tail hw).lower (by omega))
    have HL := Lib.hid (show R0.length = la2 by rw [HR1.out, stN_len])
    clear ow RK hc hf ch5 PN PX A3 A4
    go_wp2
    · go_ret2
      have h00 : la2 = 0 := by omega
      have h0 : R0 = [] := List.length_eq_zero_iff.1 (HL.out.trans h00)
      exact ⟨some ⟨g, 0, none⟩, ⟨_, by rw [h0]; rfl⟩, D6.out, by rw [h0]; exact ⟨rfl, fun h => absurd h (by simp)⟩⟩
    · go_ret2
      exact ⟨some ⟨g, 3, none⟩, ⟨_, by rw [HL.out]; rfl⟩, D6.out, by rw [HL.out]; exact HWR.out⟩
  · have h' : ¬ (brOk xa0_0 xa0_1 a1_0 a1_1 a1_2 ∧ (stepsOk xa2 ∧ (xa3.length = xa2.length ∧ thrOk xa3))) := fun g => h ⟨g.1, g.2.1, g.2.2.1, g.2.2.2⟩
    have hn := bcode_n h'
    have HKK := Lib.hid HK.out
    rw [← HK.out] at hn
    obtain rfl : R0 = [] := by rw [HR.out]; unfold r0_RunBreach; rw [if_neg h]
    clear h h' HK HR
    by_cases h1 : stepsOk xa2
    · by_cases h2 : la3 = la2
      · obtain rfl : la2 = la3 := h2.symm
        obtain ⟨t, ht⟩ : ∃ t, t = decide (thrOk xa3) := ⟨_, rfl⟩
        have HA := Lib.hid (show true = decide (stepsOk xa2) from (decide_eq_true h1).symm)
        have HT := Lib.hid ht
        have HP := Lib.hid (show t = decide (stepsOk xa2 ∧ (xa3.length = xa2.length ∧ thrOk xa3)) by rw [ht]; exact decide_eq_decide.2 ⟨fun g => ⟨h1, by omega, g⟩, fun g => g.2.2⟩)
        clear ht h1
        go_enter Tryd.func26, Tryd.ntmps26
        go_wp2_with (first
          | (go_at_call 59; refine (asI_any a2 la2 ca2 xa2 _ ha2 ((RO.out.below (by repeat (first | assumption | exact Below.refl _ _ | (refine Below.setCell ?_ (by first | omega | (simp; done) | (simp; omega)) _) | apply below_drewN | apply Below.drew | (refine Below.alloc ?_ (by first | omega | (simp; done) | (simp; omega)) _)))).mono (by first | omega | (simp; done) | (simp; omega))) true HA.out).mono ?_; rintro e1v V1 ⟨rfl, B1⟩; have D1 : Below w.heap.size w V1 := (by repeat (first | assumption | exact Below.refl _ _ | (refine Below.trans ?_ (B1.mono (by first | omega | (simp; done) | (simp; omega)))) | (refine Below.setCell ?_ (by first | omega | (simp; done) | (simp; omega)) _) | apply below_drewN | apply Below.drew | (refine Below.alloc ?_ (by first | omega | (simp; done) | (simp; omega)) _))); have q1_0 : V1.cell? ⟨w.heap.size, 0, none⟩ = some (.slice a0_0 la0_0 ca0_0) := (B1.cell (p := ⟨w.heap.size, 0, none⟩) (by first | omega | (simp; done) | (simp; omega))).trans (by first | (simp; done) | go_simp); have q1_1 : V1.cell? ⟨w.heap.size, 1, none⟩ = some (.slice a0_1 la0_1 ca0_1) := (B1.cell (p := ⟨w.heap.size, 1, none⟩) (by first | omega | (simp; done) | (simp; omega))).trans (by first | (simp; done) | go_simp); have q1_2 : V1.cell? ⟨w.heap.size + 1, 0, none⟩ = some (.int .i64 a1_0) := (B1.cell (p := ⟨w.heap.size + 1, 0, none⟩) (by first | omega | (simp; done) | (simp; omega))).trans (by first | (simp; done) | go_simp); have q1_3 : V1.cell? ⟨w.heap.size + 1, 1, none⟩ = some (.int .i64 a1_1) := (B1.cell (p := ⟨w.heap.size + 1, 1, none⟩) (by first | omega | (simp; done) | (simp; omega))).trans (by first | (simp; done) | go_simp); have q1_4 : V1.cell? ⟨w.heap.size + 1, 2, none⟩ = some (.int .i64 a1_2) := (B1.cell (p := ⟨w.heap.size + 1, 2, none⟩) (by first | omega | (simp; done) | (simp; omega))).trans (by first | (simp; done) | go_simp); have s1 : w.heap.size + 1 < V1.heap.size := (by have := B1.size; (try simp at this); omega))
          | (go_at_call 55; refine (thI_any a3 la2 ca3 xa3 _ ha3 ((RS.out.below D1).mono (by omega)) t HT.out).mono ?_; rintro e2v V2 ⟨rfl, B2⟩; have D2 : Below w.heap.size w V2 := D1.trans (B2.mono (by omega)); have s2 := B2.size; have q2_0 := (B2.cell (p := ⟨w.heap.size, 0, none⟩) (by first | omega | (simp; done) | (simp; omega))).trans q1_0; have q2_1 := (B2.cell (p := ⟨w.heap.size, 1, none⟩) (by first | omega | (simp; done) | (simp; omega))).trans q1_1; have q2_2 := (B2.cell (p := ⟨w.heap.size + 1, 0, none⟩) (by first | omega | (simp; done) | (simp; omega))).trans q1_2; have q2_3 := (B2.cell (p := ⟨w.heap.size + 1, 1, none⟩) (by first | omega | (simp; done) | (simp; omega))).trans q1_3; have q2_4 := (B2.cell (p := ⟨w.heap.size + 1, 2, none⟩) (by first | omega | (simp; done) | (simp; omega))).trans q1_4)
          | (go_at_call 48; refine (bcI_any a0_0 la0_0 ca0_0 xa0_0 a0_1 la0_1 ca0_1 xa0_1 a1_0 a1_1 a1_2 _ _ ha0_0 ha0_1 (RA.out.below D2 |>.mono (by omega)) (RB.out.below D2 |>.mono (by omega)) (stepsOk xa2 ∧ (xa3.length = xa2.length ∧ thrOk xa3)) HP.out kv HKK.out).mono ?_; rintro e3v V3 ⟨rfl, B3⟩; have D3 : Below w.heap.size w V3 := D2.trans (B3.mono (by omega)); have s3 := B3.size; have q3_0 := (B3.cell (p := ⟨w.heap.size, 0, none⟩) (by first | omega | (simp; done) | (simp; omega))).trans q2_0; have q3_1 := (B3.cell (p := ⟨w.heap.size, 1, none⟩) (by first | omega | (simp; done) | (simp; omega))).trans q2_1; have q3_2 := (B3.cell (p := ⟨w.heap.size + 1, 0, none⟩) (by first | omega | (simp; done) | (simp; omega))).trans q2_2; have q3_3 := (B3.cell (p := ⟨w.heap.size + 1, 1, none⟩) (by first | omega | (simp; done) | (simp; omega))).trans q2_3; have q3_4 := (B3.cell (p := ⟨w.heap.size + 1, 2, none⟩) (by first | omega | (simp; done) | (simp; omega))).trans q2_4))
        go_ret2
        exact ⟨none, 0, rfl, D3, rfl, fun h => absurd h (by simp)⟩
      · have HA := Lib.hid (show true = decide (stepsOk xa2) from (decide_eq_true h1).symm)
        have i1 : ((la3 : Int) == (la2 : Int)) = false := by simp; omega
        have HP := Lib.hid (show false = decide (stepsOk xa2 ∧ (xa3.length = xa2.length ∧ thrOk xa3)) from (decide_eq_false (fun g => h2 (by omega))).symm)
        clear h1
        go_enter Tryd.func26, Tryd.ntmps26
        go_wp2_with (first
          | (go_at_call 59; refine (asI_any a2 la2 ca2 xa2 _ ha2 ((RO.out.below (by repeat (first | assumption | exact Below.refl _ _ | (refine Below.setCell ?_ (by first | omega | (simp; done) | (simp; omega)) _) | apply below_drewN | apply Below.drew | (refine Below.alloc ?_ (by first | omega | (simp; done) | (simp; omega)) _)))).mono (by first | omega | (simp; done) | (simp; omega))) true HA.out).mono ?_; rintro e1v V1 ⟨rfl, B1⟩; have D1 : Below w.heap.size w V1 := (by repeat (first | assumption | exact Below.refl _ _ | (refine Below.trans ?_ (B1.mono (by first | omega | (simp; done) | (simp; omega)))) | (refine Below.setCell ?_ (by first | omega | (simp; done) | (simp; omega)) _) | apply below_drewN | apply Below.drew | (refine Below.alloc ?_ (by first | omega | (simp; done) | (simp; omega)) _))); have q1_0 : V1.cell? ⟨w.heap.size, 0, none⟩ = some (.slice a0_0 la0_0 ca0_0) := (B1.cell (p := ⟨w.heap.size, 0, none⟩) (by first | omega | (simp; done) | (simp; omega))).trans (by first | (simp; done) | go_simp); have q1_1 : V1.cell? ⟨w.heap.size, 1, none⟩ = some (.slice a0_1 la0_1 ca0_1) := (B1.cell (p := ⟨w.heap.size, 1, none⟩) (by first | omega | (simp; done) | (simp; omega))).trans (by first | (simp; done) | go_simp); have q1_2 : V1.cell? ⟨w.heap.size + 1, 0, none⟩ = some (.int .i64 a1_0) := (B1.cell (p := ⟨w.heap.size + 1, 0, none⟩) (by first | omega | (simp; done) | (simp; omega))).trans (by first | (simp; done) | go_simp); have q1_3 : V1.cell? ⟨w.heap.size + 1, 1, none⟩ = some (.int .i64 a1_1) := (B1.cell (p := ⟨w.heap.size + 1, 1, none⟩) (by first | omega | (simp; done) | (simp; omega))).trans (by first | (simp; done) | go_simp); have q1_4 : V1.cell? ⟨w.heap.size + 1, 2, none⟩ = some (.int .i64 a1_2) := (B1.cell (p := ⟨w.heap.size + 1, 2, none⟩) (by first | omega | (simp; done) | (simp; omega))).trans (by first | (simp; done) | go_simp); have s1 : w.heap.size + 1 < V1.heap.size := (by have := B1.size; (try simp at this); omega))
          | (go_at_call 55; refine (thI_any a3 la3 ca3 xa3 _ ha3 ((RS.out.below D1).mono (by omega)) true HA.out).mono ?_; rintro e2v V2 ⟨rfl, B2⟩; have D2 : Below w.heap.size w V2 := D1.trans (B2.mono (by omega)); have s2 := B2.size; have q2_0 := (B2.cell (p := ⟨w.heap.size, 0, none⟩) (by first | omega | (simp; done) | (simp; omega))).trans q1_0; have q2_1 := (B2.cell (p := ⟨w.heap.size, 1, none⟩) (by first | omega | (simp; done) | (simp; omega))).trans q1_1; have q2_2 := (B2.cell (p := ⟨w.heap.size + 1, 0, none⟩) (by first | omega | (simp; done) | (simp; omega))).trans q1_2; have q2_3 := (B2.cell (p := ⟨w.heap.size + 1, 1, none⟩) (by first | omega | (simp; done) | (simp; omega))).trans q1_3; have q2_4 := (B2.cell (p := ⟨w.heap.size + 1, 2, none⟩) (by first | omega | (simp; done) | (simp; omega))).trans q1_4)
          | (go_at_call 48; refine (bcI_any a0_0 la0_0 ca0_0 xa0_0 a0_1 la0_1 ca0_1 xa0_1 a1_0 a1_1 a1_2 _ _ ha0_0 ha0_1 (RA.out.below D1 |>.mono (by omega)) (RB.out.below D1 |>.mono (by omega)) (stepsOk xa2 ∧ (xa3.length = xa2.length ∧ thrOk xa3)) HP.out kv HKK.out).mono ?_; rintro e3v V3 ⟨rfl, B3⟩; have D3 : Below w.heap.size w V3 := D1.trans (B3.mono (by omega)); have s3 := B3.size; have q3_0 := (B3.cell (p := ⟨w.heap.size, 0, none⟩) (by first | omega | (simp; done) | (simp; omega))).trans q1_0; have q3_1 := (B3.cell (p := ⟨w.heap.size, 1, none⟩) (by first | omega | (simp; done) | (simp; omega))).trans q1_1; have q3_2 := (B3.cell (p := ⟨w.heap.size + 1, 0, none⟩) (by first | omega | (simp; done) | (simp; omega))).trans q1_2; have q3_3 := (B3.cell (p := ⟨w.heap.size + 1, 1, none⟩) (by first | omega | (simp; done) | (simp; omega))).trans q1_3; have q3_4 := (B3.cell (p := ⟨w.heap.size + 1, 2, none⟩) (by first | omega | (simp; done) | (simp; omega))).trans q1_4))
        go_ret2
        exact ⟨none, 0, rfl, D3, rfl, fun h => absurd h (by simp)⟩
    · have HA := Lib.hid (show false = decide (stepsOk xa2) from (decide_eq_false h1).symm)
      have HP := Lib.hid (show false = decide (stepsOk xa2 ∧ (xa3.length = xa2.length ∧ thrOk xa3)) from (decide_eq_false (fun g => h1 g.1)).symm)
      clear h1
      go_enter Tryd.func26, Tryd.ntmps26
      go_wp2_with (first
          | (go_at_call 59; refine (asI_any a2 la2 ca2 xa2 _ ha2 ((RO.out.below (by repeat (first | assumption | exact Below.refl _ _ | (refine Below.setCell ?_ (by first | omega | (simp; done) | (simp; omega)) _) | apply below_drewN | apply Below.drew | (refine Below.alloc ?_ (by first | omega | (simp; done) | (simp; omega)) _)))).mono (by first | omega | (simp; done) | (simp; omega))) false HA.out).mono ?_; rintro e1v V1 ⟨rfl, B1⟩; have D1 : Below w.heap.size w V1 := (by repeat (first | assumption | exact Below.refl _ _ | (refine Below.trans ?_ (B1.mono (by first | omega | (simp; done) | (simp; omega)))) | (refine Below.setCell ?_ (by first | omega | (simp; done) | (simp; omega)) _) | apply below_drewN | apply Below.drew | (refine Below.alloc ?_ (by first | omega | (simp; done) | (simp; omega)) _))); have q1_0 : V1.cell? ⟨w.heap.size, 0, none⟩ = some (.slice a0_0 la0_0 ca0_0) := (B1.cell (p := ⟨w.heap.size, 0, none⟩) (by first | omega | (simp; done) | (simp; omega))).trans (by first | (simp; done) | go_simp); have q1_1 : V1.cell? ⟨w.heap.size, 1, none⟩ = some (.slice a0_1 la0_1 ca0_1) := (B1.cell (p := ⟨w.heap.size, 1, none⟩) (by first | omega | (simp; done) | (simp; omega))).trans (by first | (simp; done) | go_simp); have q1_2 : V1.cell? ⟨w.heap.size + 1, 0, none⟩ = some (.int .i64 a1_0) := (B1.cell (p := ⟨w.heap.size + 1, 0, none⟩) (by first | omega | (simp; done) | (simp; omega))).trans (by first | (simp; done) | go_simp); have q1_3 : V1.cell? ⟨w.heap.size + 1, 1, none⟩ = some (.int .i64 a1_1) := (B1.cell (p := ⟨w.heap.size + 1, 1, none⟩) (by first | omega | (simp; done) | (simp; omega))).trans (by first | (simp; done) | go_simp); have q1_4 : V1.cell? ⟨w.heap.size + 1, 2, none⟩ = some (.int .i64 a1_2) := (B1.cell (p := ⟨w.heap.size + 1, 2, none⟩) (by first | omega | (simp; done) | (simp; omega))).trans (by first | (simp; done) | go_simp); have s1 : w.heap.size + 1 < V1.heap.size := (by have := B1.size; (try simp at this); omega))
          | (go_at_call 55; refine (thI_any a3 la3 ca3 xa3 _ ha3 ((RS.out.below D1).mono (by omega)) true HA.out).mono ?_; rintro e2v V2 ⟨rfl, B2⟩; have D2 : Below w.heap.size w V2 := D1.trans (B2.mono (by omega)); have s2 := B2.size; have q2_0 := (B2.cell (p := ⟨w.heap.size, 0, none⟩) (by first | omega | (simp; done) | (simp; omega))).trans q1_0; have q2_1 := (B2.cell (p := ⟨w.heap.size, 1, none⟩) (by first | omega | (simp; done) | (simp; omega))).trans q1_1; have q2_2 := (B2.cell (p := ⟨w.heap.size + 1, 0, none⟩) (by first | omega | (simp; done) | (simp; omega))).trans q1_2; have q2_3 := (B2.cell (p := ⟨w.heap.size + 1, 1, none⟩) (by first | omega | (simp; done) | (simp; omega))).trans q1_3; have q2_4 := (B2.cell (p := ⟨w.heap.size + 1, 2, none⟩) (by first | omega | (simp; done) | (simp; omega))).trans q1_4)
          | (go_at_call 48; refine (bcI_any a0_0 la0_0 ca0_0 xa0_0 a0_1 la0_1 ca0_1 xa0_1 a1_0 a1_1 a1_2 _ _ ha0_0 ha0_1 (RA.out.below D1 |>.mono (by omega)) (RB.out.below D1 |>.mono (by omega)) (stepsOk xa2 ∧ (xa3.length = xa2.length ∧ thrOk xa3)) HP.out kv HKK.out).mono ?_; rintro e3v V3 ⟨rfl, B3⟩; have D3 : Below w.heap.size w V3 := D1.trans (B3.mono (by omega)); have s3 := B3.size; have q3_0 := (B3.cell (p := ⟨w.heap.size, 0, none⟩) (by first | omega | (simp; done) | (simp; omega))).trans q1_0; have q3_1 := (B3.cell (p := ⟨w.heap.size, 1, none⟩) (by first | omega | (simp; done) | (simp; omega))).trans q1_1; have q3_2 := (B3.cell (p := ⟨w.heap.size + 1, 0, none⟩) (by first | omega | (simp; done) | (simp; omega))).trans q1_2; have q3_3 := (B3.cell (p := ⟨w.heap.size + 1, 1, none⟩) (by first | omega | (simp; done) | (simp; omega))).trans q1_3; have q3_4 := (B3.cell (p := ⟨w.heap.size + 1, 2, none⟩) (by first | omega | (simp; done) | (simp; omega))).trans q1_4))
      go_ret2
      exact ⟨none, 0, rfl, D3, rfl, fun h => absurd h (by simp)⟩

end Go.Proofs.YtckhfkgldemcnaaDoor
