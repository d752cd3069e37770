/- RunBreach of the model. -/
import Derived.Test.YtckhfkgldemcnaaDoorRbP
import Derived.Test.YtckhfkgldemcnaaDoorBreX
import Derived.Test.YtckhfkgldemcnaaDoorBreY
namespace Go.Proofs.YtckhfkgldemcnaaDoor
open Go.RowKit

set_option maxRecDepth 100000 in
set_option maxHeartbeats 6400000 in
theorem specC_RunBreach (a0_0 : Option Addr) (la0_0 ca0_0 : Nat) (xa0_0 : List Int) (a0_1 : Option Addr) (la0_1 ca0_1 : Nat) (xa0_1 : List Int) (a1_0 : Int) (a1_1 : Int) (a1_2 : Int) (a2 : Option Addr) (la2 ca2 : Nat) (xa2 : List Int) (a3 : Option Addr) (la3 ca3 : Nat) (xa3 : List Int) (w : World) (ha0_0 : la0_0 ≤ 1048576) (ra0_0 : Rd w w.heap.size a0_0 la0_0 xa0_0) (fa0_0 : Wf xa0_0) (ha0_1 : la0_1 ≤ 1048576) (ra0_1 : Rd w w.heap.size a0_1 la0_1 xa0_1) (fa0_1 : Wf xa0_1) (ha1_0 : (Lit.int .i64 a1_0).wf = true) (ha1_1 : (Lit.int .i64 a1_1).wf = true) (ha1_2 : (Lit.int .i64 a1_2).wf = true) (ha2 : la2 ≤ 1048576) (ra2 : Rd w w.heap.size a2 la2 xa2) (fa2 : Wf xa2) (ha3 : la3 ≤ 1048576) (ra3 : Rd w w.heap.size a3 la3 xa3) (fa3 : Wf xa3) :
    Calls Tryd.prog 24 #[.agg #[.slice a0_0 la0_0 ca0_0, .slice a0_1 la0_1 ca0_1], .agg #[.int .i64 a1_0, .int .i64 a1_1, .int .i64 a1_2], .slice a2 la2 ca2, .slice a3 la3 ca3] w fun e w' => ∃ B0 dB0, e = .returned (.tuple #[.slice B0 (r0_RunBreach xa0_0 xa0_1 a1_0 a1_1 a1_2 xa2 xa3).length dB0, .int .i64 (r1_RunBreach xa0_0 xa0_1 a1_0 a1_1 a1_2 xa2 xa3)]) ∧ Below w.heap.size w w' ∧ Wr_Breach w' w.heap.size B0 (r0_RunBreach xa0_0 xa0_1 a1_0 a1_1 a1_2 xa2 xa3).length (r0_RunBreach xa0_0 xa0_1 a1_0 a1_1 a1_2 xa2 xa3) := by
  have RA := Lib.hid ra0_0
  have RB := Lib.hid ra0_1
  have RO := Lib.hid ra2
  have RS := Lib.hid ra3
  have hlo := RO.out.1
  have hls := RS.out.1
  clear ra0_0 ra0_1 ra2 ra3
  obtain ⟨kv, hkv⟩ : ∃ k, k = r1_RunBreach xa0_0 xa0_1 a1_0 a1_1 a1_2 xa2 xa3 := ⟨_, rfl⟩
  have HK := Lib.hid (show kv = bcode xa0_0 xa0_1 a1_0 a1_1 a1_2 (stepsOk xa2 ∧ (xa3.length = xa2.length ∧ thrOk xa3)) from hkv)
  rw [← hkv]
  clear hkv
  obtain ⟨R0, hR0⟩ : ∃ R, R = r0_RunBreach xa0_0 xa0_1 a1_0 a1_1 a1_2 xa2 xa3 := ⟨_, rfl⟩
  have HR := Lib.hid hR0
  rw [← hR0]
  clear hR0
  obtain ⟨b0, hb0⟩ : ∃ b, b = decide ((la3 : Int) = (la2 : Int)) := ⟨_, rfl⟩
  have HB0 := Lib.hid hb0
  clear hb0
  go_enter Tryd.func24, Tryd.ntmps24
  have st0 : ((la3 : Int) == (la2 : Int)) = decide (xa3.length = xa2.length ∧ thrK xa3 0) := by
    rw [hls, hlo]
    by_cases e : la3 = la2
    · subst e
      rw [decide_eq_true ⟨rfl, fun j hj => absurd hj (by omega)⟩]
      simp
    · rw [decide_eq_false (fun g => e g.1)]
      simp
      omega
  go_wp2
  go_loop [10, 11] (fun zb i => ∃ k : Nat, k ≤ la3 ∧ i = .int .i64 (k : Int) ∧ zb = .bool (decide (xa3.length = xa2.length ∧ thrK xa3 k))) (fun _ i => la3 - (intOf i).toNat)
  case atStart => exact ⟨0, by omega, rfl, by
    have z : thrK xa3 0 := fun j hj => absurd hj (by omega)
    clear st0
    by_cases e : la3 = la2
    · subst e; simp_all
    · simp_all⟩
  case round =>
    obtain ⟨k, hk, rfl, rfl⟩ := hrel
    clear st0
    obtain ⟨bk, hbk⟩ : ∃ b, b = decide (xa3.length = xa2.length ∧ thrK xa3 k) := ⟨_, rfl⟩
    rw [← hbk]
    have HBK := Lib.hid hbk
    clear hbk
    by_cases hlt : k < la3
    · have i1 : (k : Int) < (la3 : Int) := by omega
      obtain ⟨sb, so, rfl, hsb, hsc⟩ := RS.out.2 (by omega)
      have sy := hsc k hlt
      obtain ⟨sv, hsv⟩ : ∃ y, y = xa3.getD k 0 := ⟨_, rfl⟩
      rw [← hsv] at sy
      have HSV := Lib.hid hsv
      clear hsc hsv
      cases bk
      · go_wp2
        go_round
        case rel => exact ⟨k + 1, by omega, by go_num, by
          rw [decide_eq_false]
          intro g
          have := HBK.out
          rw [decide_eq_true ⟨g.1, fun j hj => g.2 j (by omega)⟩] at this
          cases this⟩
        case measure => simp [intOf]; omega
      · obtain ⟨v, hv⟩ : ∃ v, v = decide (stoOk sv) := ⟨_, rfl⟩
        have HV := Lib.hid hv
        clear hv
        go_wp2_with (go_at_call 53; refine (stS_any sv _ v HV.out).mono ?_; rintro e1 W1 ⟨rfl, rfl⟩)
        go_round
        case rel => exact ⟨k + 1, by omega, by go_num, by
          rw [HV.out]
          have hb := of_decide_eq_true HBK.out.symm
          refine congrArg Value.bool (decide_eq_decide.2 ⟨fun g => ⟨hb.1, fun j hj => ?_⟩, fun g => by rw [HSV.out]; exact g.2 k (by omega)⟩)
          by_cases ej : j = k
          · subst ej; rw [← HSV.out]; exact g
          · exact hb.2 j (by omega)⟩
        case measure => simp [intOf]; omega
    · obtain rfl : la3 = k := by omega
      have HP := Lib.hid (show bk = decide (xa3.length = xa2.length ∧ thrOk xa3) by
        rw [HBK.out]
        exact decide_eq_decide.2 ⟨fun g => ⟨g.1, fun j hj => g.2 j (by omega)⟩, fun g => ⟨g.1, fun j hj => g.2 j (by omega)⟩⟩)
      by_cases h : rbOk xa0_0 xa0_1 a1_0 a1_1 a1_2 xa2 xa3
      · have hk0 : kv = 0 := by rw [HK.out]; unfold bcode; rw [if_pos h.1, if_pos ⟨h.2.1, h.2.2.1, h.2.2.2⟩]
        have HR1 := Lib.hid (show R0 = stN xa0_0 xa0_1 a1_0 a1_1 a1_2 xa2 (fun k => xa3.getD k 0) la2 by rw [HR.out]; unfold r0_RunBreach; rw [if_pos h, hlo])
        have HB := Lib.hid h.1
        have HO := Lib.hid h.2.1
        have HH := Lib.hid (rb_hrs h)
        have h100 := h.2.1.2
        have h3 : la3 = la2 := by have := h.2.2.1; omega
        have HKK := Lib.hid (hk0.symm.trans HK.out)
        subst hk0
        clear h HK HR
        go_wp2_with (go_at_call 58; refine (l12List_any w.heap.size a0_0 la0_0 ca0_0 xa0_0 a0_1 la0_1 ca0_1 xa0_1 a1_0 a1_1 a1_2 a2 la2 ca2 xa2 bk _ (by first | omega | (simp; done) | (simp; omega)) ⟨by first | (simp; done) | go_simp, by first | (simp; done) | go_simp⟩ ha0_0 ha0_1 ha2 ((RA.out.below (by repeat (first | assumption | exact Below.refl _ _ | (refine Below.setCell ?_ (by first | omega | (simp; done) | (simp; omega)) _) | apply below_drewN | apply Below.drew | (refine Below.alloc ?_ (by first | omega | (simp; done) | (simp; omega)) _)))).mono (by first | omega | (simp; done) | (simp; omega))) ((RB.out.below (by repeat (first | assumption | exact Below.refl _ _ | (refine Below.setCell ?_ (by first | omega | (simp; done) | (simp; omega)) _) | apply below_drewN | apply Below.drew | (refine Below.alloc ?_ (by first | omega | (simp; done) | (simp; omega)) _)))).mono (by first | omega | (simp; done) | (simp; omega))) ((RO.out.below (by repeat (first | assumption | exact Below.refl _ _ | (refine Below.setCell ?_ (by first | omega | (simp; done) | (simp; omega)) _) | apply below_drewN | apply Below.drew | (refine Below.alloc ?_ (by first | omega | (simp; done) | (simp; omega)) _)))).mono (by first | omega | (simp; done) | (simp; omega))) (xa3.length = xa2.length ∧ thrOk xa3) HP.out 0 HKK.out).mono ?_; rintro e1v V1 ⟨rfl, B1⟩)
        have q1_0 : V1.cell? ⟨w.heap.size, 0, none⟩ = some (.slice a0_0 la0_0 ca0_0) := (B1.cell (p := ⟨w.heap.size, 0, none⟩) (by first | omega | (simp; done) | (simp; omega))).trans (by first | (simp; done) | go_simp)
        have q1_1 : V1.cell? ⟨w.heap.size, 1, none⟩ = some (.slice a0_1 la0_1 ca0_1) := (B1.cell (p := ⟨w.heap.size, 1, none⟩) (by first | omega | (simp; done) | (simp; omega))).trans (by first | (simp; done) | go_simp)
        have q1_2 : V1.cell? ⟨w.heap.size + 1, 0, none⟩ = some (.int .i64 a1_0) := (B1.cell (p := ⟨w.heap.size + 1, 0, none⟩) (by first | omega | (simp; done) | (simp; omega))).trans (by first | (simp; done) | go_simp)
        have q1_3 : V1.cell? ⟨w.heap.size + 1, 1, none⟩ = some (.int .i64 a1_1) := (B1.cell (p := ⟨w.heap.size + 1, 1, none⟩) (by first | omega | (simp; done) | (simp; omega))).trans (by first | (simp; done) | go_simp)
        have q1_4 : V1.cell? ⟨w.heap.size + 1, 2, none⟩ = some (.int .i64 a1_2) := (B1.cell (p := ⟨w.heap.size + 1, 2, none⟩) (by first | omega | (simp; done) | (simp; omega))).trans (by first | (simp; done) | go_simp)
        have fz1 : V1.frozen? ⟨w.heap.size + 1, 0, none⟩ = false ∧ V1.frozen? ⟨w.heap.size + 1, 1, none⟩ = false ∧ V1.frozen? ⟨w.heap.size + 1, 2, none⟩ = false := ⟨(B1.frozen (p := ⟨w.heap.size + 1, 0, none⟩) (by first | omega | (simp; done) | (simp; omega))).trans (by first | (simp; done) | go_simp), (B1.frozen (p := ⟨w.heap.size + 1, 1, none⟩) (by first | omega | (simp; done) | (simp; omega))).trans (by first | (simp; done) | go_simp), (B1.frozen (p := ⟨w.heap.size + 1, 2, none⟩) (by first | omega | (simp; done) | (simp; omega))).trans (by first | (simp; done) | go_simp)⟩
        have G1 : w.heap.size + 1 < V1.heap.size := (by have := B1.size; (try simp at this); omega)
        have D1 : Below w.heap.size w V1 := (by repeat (first | assumption | exact Below.refl _ _ | (refine Below.trans ?_ (B1.mono (by first | omega | (simp; done) | (simp; omega)))) | (refine Below.setCell ?_ (by first | omega | (simp; done) | (simp; omega)) _) | apply below_drewN | apply Below.drew | (refine Below.alloc ?_ (by first | omega | (simp; done) | (simp; omega)) _)))
        have MB1 := Lib.hid (show MB w V1 w.heap.size w.heap.size (w.heap.size + 1) a0_0 la0_0 ca0_0 a0_1 la0_1 ca0_1 a1_0 a1_1 a1_2 from ⟨D1, by omega, G1, by omega, by omega, ⟨q1_0, q1_1⟩, ⟨q1_2, q1_3, q1_4⟩, fz1⟩)
        clear q1_0 q1_1 q1_2 q1_3 q1_4 fz1 B1 D1
        go_wp2
        go_loopw [13, 14] (fun v i wr => ∃ k : Nat, k ≤ la2 ∧ i = .int .i64 (k : Int) ∧ Hid (MB w wr w.heap.size w.heap.size (w.heap.size + 1) a0_0 la0_0 ca0_0 a0_1 la0_1 ca0_1 (itB xa0_0 xa0_1 a1_0 a1_1 a1_2 xa2 (fun k => xa3.getD k 0) k).a a1_1 (itB xa0_0 xa0_1 a1_0 a1_1 a1_2 xa2 (fun k => xa3.getD k 0) k).c) ∧ V1.heap.size ≤ wr.heap.size ∧ Hid (wr.ownsRow V1.heap.size 32 3 v k (csBreach (stN xa0_0 xa0_1 a1_0 a1_1 a1_2 xa2 (fun k => xa3.getD k 0) k)))) (fun _ i _ => la2 - (intOf i).toNat)
        case atStart => exact ⟨0, by omega, rfl, MB1.out.below (Below.alloc (Below.refl _ _) (Nat.le_refl _) _) (by omega), by simp, ownsR_made rfl (Nat.le_refl _)⟩
        case round =>
          obtain ⟨k, hk, rfl, hmb, hsz, hown⟩ := hrel
          obtain ⟨b1, _, _⟩ := itB_ok HB.out HH.out k (by omega)
          obtain ⟨av, hav⟩ : ∃ v, v = (itB xa0_0 xa0_1 a1_0 a1_1 a1_2 xa2 (fun k => xa3.getD k 0) k).a := ⟨_, rfl⟩
          obtain ⟨cv, hcv⟩ : ∃ v, v = (itB xa0_0 xa0_1 a1_0 a1_1 a1_2 xa2 (fun k => xa3.getD k 0) k).c := ⟨_, rfl⟩
          have HAV := Lib.hid hav
          have HCV := Lib.hid hcv
          rw [← hav, ← hcv] at hmb b1
          have BK := Lib.hid b1
          clear b1 hav hcv
          obtain ⟨dm, lq, lr, nq, lor, ⟨y0, y1⟩, ⟨x0, x1, x2⟩, f0, f1, f2⟩ := hmb.out
          by_cases hlt2 : k < la2
          · have i2 : (k : Int) < (la2 : Int) := by omega
            have j2 : (k : Int) < (la3 : Int) := by omega
            have j3 : k < la3 := by omega
            obtain ⟨ob, oo, rfl, hob, hoc⟩ := (RO.out.below dm).2 (by omega)
            obtain ⟨sb, so, rfl, hsb, hsc⟩ := (RS.out.below dm).2 (by omega)
            have yo := hoc k hlt2
            have sy := hsc k j3
            obtain ⟨yv, hyv⟩ : ∃ y, y = xa2.getD k 0 := ⟨_, rfl⟩
            obtain ⟨sv, hsv⟩ : ∃ y, y = xa3.getD k 0 := ⟨_, rfl⟩
            rw [← hyv] at yo
            rw [← hsv] at sy
            have HY := Lib.hid (show levOk yv by rw [hyv]; exact HO.out.1 k (by omega))
            have HSV := Lib.hid (show stoOk sv by rw [hsv]; exact (HH.out k (by omega)).2)
            have HYV := Lib.hid hyv
            have HSVV := Lib.hid hsv
            obtain ⟨a2v, ha2v⟩ : ∃ v, v = stW av (headN xa0_0 xa0_1 a1_1 cv yv) sv := ⟨_, rfl⟩
            obtain ⟨c2v, hc2v⟩ : ∃ v, v = cv + inflN xa0_0 xa0_1 av a1_1 cv yv := ⟨_, rfl⟩
            obtain ⟨z2v, hz2v⟩ : ∃ v, v = cloN av (headN xa0_0 xa0_1 a1_1 cv yv) sv := ⟨_, rfl⟩
            have E1 := Lib.hid ha2v
            have E2 := Lib.hid hc2v
            have E3 := Lib.hid hz2v
            clear hyv hsv hoc hsc ha2v hc2v hz2v
            go_wp2_with fail
            refine wp_region_held_drew (S := fun w' => w'.cell? ⟨w.heap.size, 0, none⟩ = some (.slice a0_0 la0_0 ca0_0) ∧ w'.cell? ⟨w.heap.size, 1, none⟩ = some (.slice a0_1 la0_1 ca0_1) ∧ w'.cell? ⟨ob, oo + k, none⟩ = some (.int .i64 yv) ∧ w'.cell? ⟨sb, so + k, none⟩ = some (.int .i64 sv)) (by kernel_rfl) ⟨y0, y1, yo, sy⟩ (fun hHeld => ?_)
            ((refine wpAnyH_take (i := 1) (oi := ⟨some 50, _, _, _, _, _⟩) (v := ?_) rfl (by kernel_rfl) (by kernel_rfl) (by kernel_rfl) (fun _ _ _ h => h) (Or.inl ⟨by rfl, ?_⟩) (by assumption) ?_; rotate_left 1; (focus (intro w hSw; (try dsimp only at hSw); go_simp <;> try (first | (with_reducible rfl) | (rw [if_neg (by omega)]) | (rw [if_pos (by omega)])))); try simp only [Act.put, List.setIfInBounds_toArray, List.set_cons_zero, List.set_cons_succ]); (refine wpAnyH_take (i := 2) (oi := ⟨some 51, _, _, _, _, _⟩) (v := ?_) rfl (by kernel_rfl) (by kernel_rfl) (by kernel_rfl) (fun _ _ _ h => h) (Or.inl ⟨by rfl, ?_⟩) (by assumption) ?_; rotate_left 1; (focus (intro w hSw; (try dsimp only at hSw); go_simp <;> try (first | (with_reducible rfl) | (rw [if_neg (by omega)]) | (rw [if_pos (by omega)])))); try simp only [Act.put, List.setIfInBounds_toArray, List.set_cons_zero, List.set_cons_succ]); (refine wpAnyH_take (i := 3) (oi := ⟨some 52, _, _, _, _, _⟩) (v := ?_) rfl (by kernel_rfl) (by kernel_rfl) (by kernel_rfl) (fun _ _ _ h => h) (Or.inl ⟨by rfl, ?_⟩) (by assumption) ?_; rotate_left 1; (focus (intro w hSw; (try dsimp only at hSw); go_simp <;> try (first | (with_reducible rfl) | (rw [if_neg (by omega)]) | (rw [if_pos (by omega)])))); try simp only [Act.put, List.setIfInBounds_toArray, List.set_cons_zero, List.set_cons_succ]); (refine wpAnyH_take (i := 4) (oi := ⟨some 53, _, _, _, _, _⟩) (v := ?_) rfl (by kernel_rfl) (by kernel_rfl) (by kernel_rfl) (fun _ _ _ h => h) (Or.inl ⟨by rfl, ?_⟩) (by assumption) ?_; rotate_left 1; (focus (intro w hSw; (try dsimp only at hSw); go_simp <;> try (first | (with_reducible rfl) | (rw [if_neg (by omega)]) | (rw [if_pos (by omega)])))); try simp only [Act.put, List.setIfInBounds_toArray, List.set_cons_zero, List.set_cons_succ]); (refine wpAnyH_take (i := 5) (oi := ⟨some 54, _, _, _, _, _⟩) (v := ?_) rfl (by kernel_rfl) (by kernel_rfl) (by kernel_rfl) (fun _ _ _ h => h) (Or.inl ⟨by rfl, ?_⟩) (by assumption) ?_; rotate_left 1; (focus (intro w hSw; (try dsimp only at hSw); go_simp <;> try (first | (with_reducible rfl) | (rw [if_neg (by omega)]) | (rw [if_pos (by omega)])))); try simp only [Act.put, List.setIfInBounds_toArray, List.set_cons_zero, List.set_cons_succ]); (refine wpAnyH_take (i := 6) (oi := ⟨some 55, _, _, _, _, _⟩) (v := ?_) rfl (by kernel_rfl) (by kernel_rfl) (by kernel_rfl) (fun _ _ _ h => h) (Or.inl ⟨by rfl, ?_⟩) (by assumption) ?_; rotate_left 1; (focus (intro w hSw; (try dsimp only at hSw); go_simp <;> try (first | (with_reducible rfl) | (rw [if_neg (by omega)]) | (rw [if_pos (by omega)])))); try simp only [Act.put, List.setIfInBounds_toArray, List.set_cons_zero, List.set_cons_succ]); (refine wpAnyH_take (i := 7) (oi := ⟨some 56, _, _, _, _, _⟩) (v := ?_) rfl (by kernel_rfl) (by kernel_rfl) (by kernel_rfl) (fun _ _ _ h => h) (Or.inl ⟨by rfl, ?_⟩) (by assumption) ?_; rotate_left 1; (focus (intro w hSw; (try dsimp only at hSw); go_simp <;> try (first | (with_reducible rfl) | (rw [if_neg (by omega)]) | (rw [if_pos (by omega)])))); try simp only [Act.put, List.setIfInBounds_toArray, List.set_cons_zero, List.set_cons_succ]); (refine wpAnyH_take (i := 8) (oi := ⟨some 57, _, _, _, _, _⟩) (v := ?_) rfl (by kernel_rfl) (by kernel_rfl) (by kernel_rfl) (fun _ _ _ h => h) (Or.inl ⟨by rfl, ?_⟩) (by assumption) ?_; rotate_left 1; (focus (intro w hSw; (try dsimp only at hSw); go_simp <;> try (first | (with_reducible rfl) | (rw [if_neg (by omega)]) | (rw [if_pos (by omega)])))); try simp only [Act.put, List.setIfInBounds_toArray, List.set_cons_zero, List.set_cons_succ]))
            refine wpAnyH_ready (rs := [0]) (by kernel_rfl) (by simp) ?_
            refine AllReadyH.cons (o := ⟨some 49, _, _, _, _, _⟩) rfl (fun K hK => ?_) AllReadyH.nil
            go_simp
            (refine hK.out _ _ ?_ (fun hHeld => ?_))
            · exact hHeld
            clear hK K
            refine wpAnyH_ready (rs := [9]) (by kernel_rfl) (by simp) ?_
            refine AllReadyH.cons (o := ⟨some 58, _, _, _, _, _⟩) rfl (fun K hK => ?_) AllReadyH.nil
            go_simp
            refine (stepS_t w.heap.size a0_0 la0_0 ca0_0 xa0_0 a0_1 la0_1 ca0_1 xa0_1 av a1_1 cv yv sv _ (by first | omega | (simp; done) | (simp; omega)) ⟨hHeld.1, hHeld.2.1⟩ ha0_0 ha0_1 ((RA.out.below (below_drewN dm 1)).mono (by first | omega | (simp; done) | (simp; omega))) ((RB.out.below (below_drewN dm 1)).mono (by first | omega | (simp; done) | (simp; omega))) BK.out HY.out HSV.out a2v c2v z2v E1.out E2.out E3.out).mono ?_
            rintro e2v V3 ⟨rfl, B3⟩
            have M3 := Lib.hid (hmb.out.belowD B3 (by omega))
            have OW3 := Lib.hid (owns_below hown.out (⟨B3.os, B3.tape, B3.output, B3.size, B3.block⟩ : Below wr.heap.size wr V3))
            have sV3 : wr.heap.size ≤ V3.heap.size := B3.size
            have yo3 := (B3.cell (p := ⟨ob, oo + k, none⟩) (by first | omega | (simp; done) | (simp; omega))).trans hHeld.2.2.1
            have so3 := (B3.cell (p := ⟨sb, so + k, none⟩) (by first | omega | (simp; done) | (simp; omega))).trans hHeld.2.2.2
            obtain ⟨d3, _, lr3, _, _, ⟨u0, u1⟩, _, _⟩ := M3.out
            clear hHeld
            (refine hK.out _ _ ?_ (fun hHeld => ?_))
            · exact ⟨u0, u1, yo3, so3⟩
            clear hK K
            ((refine wpAnyH_take (i := 10) (oi := ⟨some 48, _, _, _, _, _⟩) (v := ?_) rfl (by kernel_rfl) (by kernel_rfl) (by kernel_rfl) (fun _ _ _ h => h) (Or.inl ⟨by rfl, ?_⟩) (by assumption) ?_; rotate_left 1; (focus (intro w hSw; (try dsimp only at hSw); go_simp <;> try (first | (with_reducible rfl) | (rw [if_neg (by omega)]) | (rw [if_pos (by omega)])))); try simp only [Act.put, List.setIfInBounds_toArray, List.set_cons_zero, List.set_cons_succ]); (refine wpAnyH_take (i := 11) (oi := ⟨some 59, _, _, _, _, _⟩) (v := ?_) rfl (by kernel_rfl) (by kernel_rfl) (by kernel_rfl) (fun _ _ _ h => h) (Or.inl ⟨by rfl, ?_⟩) (by assumption) ?_; rotate_left 1; (focus (intro w hSw; (try dsimp only at hSw); go_simp <;> try (first | (with_reducible rfl) | (rw [if_neg (by omega)]) | (rw [if_pos (by omega)])))); try simp only [Act.put, List.setIfInBounds_toArray, List.set_cons_zero, List.set_cons_succ]); (refine wpAnyH_take (i := 12) (oi := ⟨some 60, _, _, _, _, _⟩) (v := ?_) rfl (by kernel_rfl) (by kernel_rfl) (by kernel_rfl) (fun _ _ _ h => h) (Or.inl ⟨by rfl, ?_⟩) (by assumption) ?_; rotate_left 1; (focus (intro w hSw; (try dsimp only at hSw); go_simp <;> try (first | (with_reducible rfl) | (rw [if_neg (by omega)]) | (rw [if_pos (by omega)])))); try simp only [Act.put, List.setIfInBounds_toArray, List.set_cons_zero, List.set_cons_succ]))
            refine wpAnyH_ready (rs := [13]) (by kernel_rfl) (by simp) ?_
            refine AllReadyH.cons (o := ⟨none, _, _, _, _, _⟩) rfl (fun K hK => ?_) AllReadyH.nil
            go_simp
            have M4 := Lib.hid (M3.out.set a2v a1_1 c2v)
            have OW4 := Lib.hid (own_three (q := w.heap.size + 1) (v0 := .int .i64 a2v) (v1 := .int .i64 a1_1) (v2 := .int .i64 c2v) OW3.out (by omega))
            have sV4 : V3.heap.size ≤ ((((V3.setCell ⟨w.heap.size + 1, 0, none⟩ (.int .i64 a2v)).setCell ⟨w.heap.size + 1, 1, none⟩ (.int .i64 a1_1)).setCell ⟨w.heap.size + 1, 2, none⟩ (.int .i64 c2v))).heap.size := by simp [World.setCell]
            obtain ⟨d4, _, _, _, _, ⟨t0, t1⟩, _, _⟩ := M4.out
            have yo4 : ((((V3.setCell ⟨w.heap.size + 1, 0, none⟩ (.int .i64 a2v)).setCell ⟨w.heap.size + 1, 1, none⟩ (.int .i64 a1_1)).setCell ⟨w.heap.size + 1, 2, none⟩ (.int .i64 c2v))).cell? ⟨ob, oo + k, none⟩ = _ := (World.cell?_setCell_other _ _ _ _ (fun e => by injection e; omega)).trans ((World.cell?_setCell_other _ _ _ _ (fun e => by injection e; omega)).trans ((World.cell?_setCell_other _ _ _ _ (fun e => by injection e; omega)).trans yo3))
            have so4 : ((((V3.setCell ⟨w.heap.size + 1, 0, none⟩ (.int .i64 a2v)).setCell ⟨w.heap.size + 1, 1, none⟩ (.int .i64 a1_1)).setCell ⟨w.heap.size + 1, 2, none⟩ (.int .i64 c2v))).cell? ⟨sb, so + k, none⟩ = _ := (World.cell?_setCell_other _ _ _ _ (fun e => by injection e; omega)).trans ((World.cell?_setCell_other _ _ _ _ (fun e => by injection e; omega)).trans ((World.cell?_setCell_other _ _ _ _ (fun e => by injection e; omega)).trans so3))
            (refine hK.out _ _ ?_ (fun hHeld => ?_))
            · exact ⟨t0, t1, yo4, so4⟩
            clear hK K
            refine wpAnyH_done (by kernel_rfl) ?_ _
            generalize (((V3.setCell ⟨w.heap.size + 1, 0, none⟩ (.int .i64 a2v)).setCell ⟨w.heap.size + 1, 1, none⟩ (.int .i64 a1_1)).setCell ⟨w.heap.size + 1, 2, none⟩ (.int .i64 c2v)) = X4 at M4 OW4 sV4 ⊢
            clear hHeld
            obtain ⟨_, lqX, lrX, _, _, ⟨c0, c1⟩, ⟨r0, r1, r2⟩, r3, r4, r5⟩ := M4.out
            go_wp2_with (at_builtin; refine wplApp1Breach rfl _ _ rfl _ _ rfl _ _ _ (stN xa0_0 xa0_1 a1_0 a1_1 a1_2 xa2 (fun k => xa3.getD k 0) k) a2v a1_1 c2v rfl OW4.out rfl (by omega) (by omega) ?_; intro v1 w1 hown1 hb1 hz1)
            go_roundw
            case rel =>
              have ea : (itB xa0_0 xa0_1 a1_0 a1_1 a1_2 xa2 (fun k => xa3.getD k 0) (k + 1)).a = a2v := by rw [E1.out, HYV.out, HSVV.out, HAV.out, HCV.out]; rfl
              have ec : (itB xa0_0 xa0_1 a1_0 a1_1 a1_2 xa2 (fun k => xa3.getD k 0) (k + 1)).c = c2v := by rw [E2.out, HYV.out, HAV.out, HCV.out]; rfl
              exact ⟨k + 1, by omega, by go_num, (by rw [ea, ec]; exact M4.out.belowB hb1 (by omega) (by omega) (by omega)), by omega, by rw [stN_succ, ea, ec]; exact hown1⟩
            case measure => simp [intOf]; omega
          · obtain rfl : la2 = k := by omega
            obtain ⟨B, d, rfl, hw⟩ := own_wrBreach hown.out
            rw [← HR1.out] at hw
            have HW := Lib.hid (hw.lower (show w.heap.size ≤ V1.heap.size by omega))
            have HL := Lib.hid (show R0.length = la2 by rw [HR1.out, stN_len])
            have D2 := Lib.hid dm
            clear hw hown dm
            go_wp2
            go_ret2
            exact ⟨B, d, by rw [HL.out]; rfl, D2.out, by rw [HL.out]; exact HW.out⟩
      · have h' : ¬ (brOk xa0_0 xa0_1 a1_0 a1_1 a1_2 ∧ (stepsOk xa2 ∧ (xa3.length = xa2.length ∧ thrOk xa3))) := fun g => h ⟨g.1, g.2.1, g.2.2.1, g.2.2.2⟩
        have hn := bcode_n h'
        have HKK := Lib.hid HK.out
        rw [← HK.out] at hn
        have HR1 := Lib.hid (show R0 = [] by rw [HR.out]; unfold r0_RunBreach; rw [if_neg h])
        obtain rfl : R0 = [] := HR1.out
        clear h h' HK HR
        go_wp2_with (go_at_call 58; refine (l12List_any w.heap.size a0_0 la0_0 ca0_0 xa0_0 a0_1 la0_1 ca0_1 xa0_1 a1_0 a1_1 a1_2 a2 la2 ca2 xa2 bk _ (by first | omega | (simp; done) | (simp; omega)) ⟨by first | (simp; done) | go_simp, by first | (simp; done) | go_simp⟩ ha0_0 ha0_1 ha2 ((RA.out.below (by repeat (first | assumption | exact Below.refl _ _ | (refine Below.setCell ?_ (by first | omega | (simp; done) | (simp; omega)) _) | apply below_drewN | apply Below.drew | (refine Below.alloc ?_ (by first | omega | (simp; done) | (simp; omega)) _)))).mono (by first | omega | (simp; done) | (simp; omega))) ((RB.out.below (by repeat (first | assumption | exact Below.refl _ _ | (refine Below.setCell ?_ (by first | omega | (simp; done) | (simp; omega)) _) | apply below_drewN | apply Below.drew | (refine Below.alloc ?_ (by first | omega | (simp; done) | (simp; omega)) _)))).mono (by first | omega | (simp; done) | (simp; omega))) ((RO.out.below (by repeat (first | assumption | exact Below.refl _ _ | (refine Below.setCell ?_ (by first | omega | (simp; done) | (simp; omega)) _) | apply below_drewN | apply Below.drew | (refine Below.alloc ?_ (by first | omega | (simp; done) | (simp; omega)) _)))).mono (by first | omega | (simp; done) | (simp; omega))) (xa3.length = xa2.length ∧ thrOk xa3) HP.out kv HKK.out).mono ?_; rintro e1v V1 ⟨rfl, B1⟩; have D1 : Below w.heap.size w V1 := (by repeat (first | assumption | exact Below.refl _ _ | (refine Below.trans ?_ (B1.mono (by first | omega | (simp; done) | (simp; omega)))) | (refine Below.setCell ?_ (by first | omega | (simp; done) | (simp; omega)) _) | apply below_drewN | apply Below.drew | (refine Below.alloc ?_ (by first | omega | (simp; done) | (simp; omega)) _))))
        go_ret2
        exact ⟨none, 0, rfl, D1, rfl, fun h => absurd h (by simp)⟩

end Go.Proofs.YtckhfkgldemcnaaDoor
