/- After how many hours a level is reached. -/
import Derived.Test.YtckhfkgldemcnaaDoorBreM
import Derived.Test.YtckhfkgldemcnaaDoorBreY
namespace Go.Proofs.YtckhfkgldemcnaaDoor
open Go.RowKit

def f_HoursToLevel (xa0_0 : List Int) (xa0_1 : List Int) (a1_0 : Int) (a1_1 : Int) (a1_2 : Int) (xa2 : List Int) (a3 : Int) : Nat := fstN (fun k => decide (a3 ≤ lvAt xa0_0 xa0_1 (itB xa0_0 xa0_1 a1_0 a1_1 a1_2 xa2 (fun _ => 0) k).c)) (xa2.length + 1)
def r0_HoursToLevel (xa0_0 : List Int) (xa0_1 : List Int) (a1_0 : Int) (a1_1 : Int) (a1_2 : Int) (xa2 : List Int) (a3 : Int) : Int := if (brOk xa0_0 xa0_1 a1_0 a1_1 a1_2 ∧ stepsOk xa2 ∧ levOk a3) ∧ f_HoursToLevel xa0_0 xa0_1 a1_0 a1_1 a1_2 xa2 a3 ≤ xa2.length then (f_HoursToLevel xa0_0 xa0_1 a1_0 a1_1 a1_2 xa2 a3 : Int) else 0
def r1_HoursToLevel (xa0_0 : List Int) (xa0_1 : List Int) (a1_0 : Int) (a1_1 : Int) (a1_2 : Int) (xa2 : List Int) (a3 : Int) : Int := if (brOk xa0_0 xa0_1 a1_0 a1_1 a1_2 ∧ stepsOk xa2 ∧ levOk a3) ∧ xa2.length < f_HoursToLevel xa0_0 xa0_1 a1_0 a1_1 a1_2 xa2 a3 then 3 else bcode xa0_0 xa0_1 a1_0 a1_1 a1_2 (stepsOk xa2 ∧ levOk a3)

set_option maxRecDepth 100000 in
set_option maxHeartbeats 3200000 in
theorem specC_HoursToLevel (a0_0 : Option Addr) (la0_0 ca0_0 : Nat) (xa0_0 : List Int) (a0_1 : Option Addr) (la0_1 ca0_1 : Nat) (xa0_1 : List Int) (a1_0 : Int) (a1_1 : Int) (a1_2 : Int) (a2 : Option Addr) (la2 ca2 : Nat) (xa2 : List Int) (a3 : Int) (w : World) (ha0_0 : la0_0 ≤ 1048576) (ra0_0 : Rd w w.heap.size a0_0 la0_0 xa0_0) (fa0_0 : Wf xa0_0) (ha0_1 : la0_1 ≤ 1048576) (ra0_1 : Rd w w.heap.size a0_1 la0_1 xa0_1) (fa0_1 : Wf xa0_1) (ha1_0 : (Lit.int .i64 a1_0).wf = true) (ha1_1 : (Lit.int .i64 a1_1).wf = true) (ha1_2 : (Lit.int .i64 a1_2).wf = true) (ha2 : la2 ≤ 1048576) (ra2 : Rd w w.heap.size a2 la2 xa2) (fa2 : Wf xa2) (ha3 : (Lit.int .i64 a3).wf = true) :
    Calls Tryd.prog 33 #[.agg #[.slice a0_0 la0_0 ca0_0, .slice a0_1 la0_1 ca0_1], .agg #[.int .i64 a1_0, .int .i64 a1_1, .int .i64 a1_2], .slice a2 la2 ca2, .int .i64 a3] w fun e w' => e = .returned (.tuple #[.int .i64 (r0_HoursToLevel xa0_0 xa0_1 a1_0 a1_1 a1_2 xa2 a3), .int .i64 (r1_HoursToLevel xa0_0 xa0_1 a1_0 a1_1 a1_2 xa2 a3)]) ∧ Below w.heap.size w w' := by
  have RA := Lib.hid ra0_0
  have RB := Lib.hid ra0_1
  have RO := Lib.hid ra2
  clear ra0_0 ra0_1 ra2
  have hlo := RO.out.1
  obtain ⟨R0, hR0⟩ : ∃ R, R = r0_HoursToLevel xa0_0 xa0_1 a1_0 a1_1 a1_2 xa2 a3 := ⟨_, rfl⟩
  obtain ⟨R1, hR1⟩ : ∃ R, R = r1_HoursToLevel xa0_0 xa0_1 a1_0 a1_1 a1_2 xa2 a3 := ⟨_, rfl⟩
  rw [← hR0, ← hR1]
  by_cases h : brOk xa0_0 xa0_1 a1_0 a1_1 a1_2 ∧ stepsOk xa2 ∧ levOk a3
  · have HB := Lib.hid h.1
    have HO := Lib.hid h.2.1
    have HK := Lib.hid (show (0 : Int) = bcode xa0_0 xa0_1 a1_0 a1_1 a1_2 (stepsOk xa2 ∧ levOk a3) from (by unfold bcode; rw [if_pos h.1, if_pos h.2]))
    have HV := Lib.hid (show true = decide (levOk a3) from (decide_eq_true h.2.2).symm)
    have HP := Lib.hid (show true = decide (levOk a3) from (decide_eq_true h.2.2).symm)
    have h100 := h.2.1.2
    have HH := Lib.hid (hrs_ok (s := 0) h.2.1 ⟨by omega, by omega⟩)
    have HOK := Lib.hid h
    have YES := Lib.hid (show ∀ k, k ≤ xa2.length → (∀ j, j < k → (fun k => decide (a3 ≤ lvAt xa0_0 xa0_1 (itB xa0_0 xa0_1 a1_0 a1_1 a1_2 xa2 (fun _ => 0) k).c)) j = false) → (fun k => decide (a3 ≤ lvAt xa0_0 xa0_1 (itB xa0_0 xa0_1 a1_0 a1_1 a1_2 xa2 (fun _ => 0) k).c)) k = true → R0 = (k : Int) ∧ R1 = 0 from fun k hk hj hp => by
      rw [hR0, hR1]
      have e : f_HoursToLevel xa0_0 xa0_1 a1_0 a1_1 a1_2 xa2 a3 = k := f_at hk hj hp
      unfold r0_HoursToLevel r1_HoursToLevel
      rw [e, if_pos ⟨HOK.out, hk⟩, if_neg (fun g => by omega)]
      exact ⟨rfl, HK.out.symm⟩)
    have NO := Lib.hid (show (∀ j, j ≤ xa2.length → (fun k => decide (a3 ≤ lvAt xa0_0 xa0_1 (itB xa0_0 xa0_1 a1_0 a1_1 a1_2 xa2 (fun _ => 0) k).c)) j = false) → R0 = 0 ∧ R1 = 3 from fun hj => by
      rw [hR0, hR1]
      have e : f_HoursToLevel xa0_0 xa0_1 a1_0 a1_1 a1_2 xa2 a3 = xa2.length + 1 := f_no hj
      unfold r0_HoursToLevel r1_HoursToLevel
      rw [e, if_neg (fun g => by omega), if_pos ⟨HOK.out, by omega⟩]
      exact ⟨rfl, rfl⟩)
    clear h hR0 hR1
    go_enter Tryd.func33, Tryd.ntmps33
    go_wp2_with fail
    refine wp_region_held_drew (S := fun w' => w'.cell? ⟨w.heap.size, 0, none⟩ = some (.slice a0_0 la0_0 ca0_0) ∧ w'.cell? ⟨w.heap.size, 1, none⟩ = some (.slice a0_1 la0_1 ca0_1) ∧ w'.cell? ⟨w.heap.size + 1, 0, none⟩ = some (.int .i64 a1_0) ∧ w'.cell? ⟨w.heap.size + 1, 1, none⟩ = some (.int .i64 a1_1) ∧ w'.cell? ⟨w.heap.size + 1, 2, none⟩ = some (.int .i64 a1_2)) (by kernel_rfl) ⟨by first | (simp; done) | go_simp, by first | (simp; done) | go_simp, by first | (simp; done) | go_simp, by first | (simp; done) | go_simp, by first | (simp; done) | go_simp⟩ (fun hHeld => ?_)
    ((refine wpAnyH_take (i := 0) (oi := ⟨some 12, _, _, _, _, _⟩) (v := ?_) rfl (by kernel_rfl) (by kernel_rfl) (by kernel_rfl) (fun _ _ _ h => h) (Or.inl ⟨by rfl, ?_⟩) (by assumption) ?_; rotate_left 1; (focus (intro w hSw; (try dsimp only at hSw); go_simp <;> try (first | (with_reducible rfl) | (rw [if_neg (by omega)]) | (rw [if_pos (by omega)])))); try simp only [Act.put, List.setIfInBounds_toArray, List.set_cons_zero, List.set_cons_succ]); (refine wpAnyH_take (i := 1) (oi := ⟨some 13, _, _, _, _, _⟩) (v := ?_) rfl (by kernel_rfl) (by kernel_rfl) (by kernel_rfl) (fun _ _ _ h => h) (Or.inl ⟨by rfl, ?_⟩) (by assumption) ?_; rotate_left 1; (focus (intro w hSw; (try dsimp only at hSw); go_simp <;> try (first | (with_reducible rfl) | (rw [if_neg (by omega)]) | (rw [if_pos (by omega)])))); try simp only [Act.put, List.setIfInBounds_toArray, List.set_cons_zero, List.set_cons_succ]); (refine wpAnyH_take (i := 2) (oi := ⟨some 14, _, _, _, _, _⟩) (v := ?_) rfl (by kernel_rfl) (by kernel_rfl) (by kernel_rfl) (fun _ _ _ h => h) (Or.inl ⟨by rfl, ?_⟩) (by assumption) ?_; rotate_left 1; (focus (intro w hSw; (try dsimp only at hSw); go_simp <;> try (first | (with_reducible rfl) | (rw [if_neg (by omega)]) | (rw [if_pos (by omega)])))); try simp only [Act.put, List.setIfInBounds_toArray, List.set_cons_zero, List.set_cons_succ]))
    (refine wpAnyH_ready (rs := [3]) (by kernel_rfl) (by simp) ?_; refine AllReadyH.cons rfl (fun K hK => ?_) AllReadyH.nil; go_simp)
    refine (l02L_any a3 _ true HV.out).mono ?_
    rintro e0v V0 ⟨rfl, rfl⟩
    have q0 := hHeld
    clear hHeld
    (refine hK.out _ _ ?_ (fun hHeld => ?_))
    · exact q0
    clear hK K
    (refine wpAnyH_ready (rs := [4]) (by kernel_rfl) (by simp) ?_; refine AllReadyH.cons rfl (fun K hK => ?_) AllReadyH.nil; go_simp)
    refine (l12List_any w.heap.size a0_0 la0_0 ca0_0 xa0_0 a0_1 la0_1 ca0_1 xa0_1 a1_0 a1_1 a1_2 a2 la2 ca2 xa2 true _ (by first | omega | (simp; done) | (simp; omega)) ⟨q0.1, q0.2.1⟩ ha0_0 ha0_1 ha2 ((RA.out.below (by repeat (first | assumption | exact Below.refl _ _ | (refine Below.setCell ?_ (by first | omega | (simp; done) | (simp; omega)) _) | apply below_drewN | apply Below.drew | (refine Below.alloc ?_ (by first | omega | (simp; done) | (simp; omega)) _)))).mono (by first | omega | (simp; done) | (simp; omega))) ((RB.out.below (by repeat (first | assumption | exact Below.refl _ _ | (refine Below.setCell ?_ (by first | omega | (simp; done) | (simp; omega)) _) | apply below_drewN | apply Below.drew | (refine Below.alloc ?_ (by first | omega | (simp; done) | (simp; omega)) _)))).mono (by first | omega | (simp; done) | (simp; omega))) ((RO.out.below (by repeat (first | assumption | exact Below.refl _ _ | (refine Below.setCell ?_ (by first | omega | (simp; done) | (simp; omega)) _) | apply below_drewN | apply Below.drew | (refine Below.alloc ?_ (by first | omega | (simp; done) | (simp; omega)) _)))).mono (by first | omega | (simp; done) | (simp; omega))) (levOk a3) HP.out 0 HK.out).mono ?_
    rintro e1v V1 ⟨rfl, B1⟩
    have q1_0 := (B1.cell (p := ⟨w.heap.size, 0, none⟩) (by first | omega | (simp; done) | (simp; omega))).trans hHeld.1
    have q1_1 := (B1.cell (p := ⟨w.heap.size, 1, none⟩) (by first | omega | (simp; done) | (simp; omega))).trans hHeld.2.1
    have q1_2 := (B1.cell (p := ⟨w.heap.size + 1, 0, none⟩) (by first | omega | (simp; done) | (simp; omega))).trans hHeld.2.2.1
    have q1_3 := (B1.cell (p := ⟨w.heap.size + 1, 1, none⟩) (by first | omega | (simp; done) | (simp; omega))).trans hHeld.2.2.2.1
    have q1_4 := (B1.cell (p := ⟨w.heap.size + 1, 2, none⟩) (by first | omega | (simp; done) | (simp; omega))).trans hHeld.2.2.2.2
    have fz1 : V1.frozen? ⟨w.heap.size + 1, 0, none⟩ = false ∧ V1.frozen? ⟨w.heap.size + 1, 1, none⟩ = false ∧ V1.frozen? ⟨w.heap.size + 1, 2, none⟩ = false := ⟨(B1.frozen (p := ⟨w.heap.size + 1, 0, none⟩) (by first | omega | (simp; done) | (simp; omega))).trans (by first | (simp; done) | go_simp), (B1.frozen (p := ⟨w.heap.size + 1, 1, none⟩) (by first | omega | (simp; done) | (simp; omega))).trans (by first | (simp; done) | go_simp), (B1.frozen (p := ⟨w.heap.size + 1, 2, none⟩) (by first | omega | (simp; done) | (simp; omega))).trans (by first | (simp; done) | go_simp)⟩
    have G1 : w.heap.size + 1 < V1.heap.size := (by have := B1.size; (try simp at this); omega)
    have D1 : Below w.heap.size w V1 := (by repeat (first | assumption | exact Below.refl _ _ | (refine Below.trans ?_ (B1.mono (by first | omega | (simp; done) | (simp; omega)))) | (refine Below.setCell ?_ (by first | omega | (simp; done) | (simp; omega)) _) | apply below_drewN | apply Below.drew | (refine Below.alloc ?_ (by first | omega | (simp; done) | (simp; omega)) _)))
    clear hHeld
    (refine hK.out _ _ ?_ (fun hHeld => ?_))
    · exact ⟨q1_0, q1_1, q1_2, q1_3, q1_4⟩
    clear hK K
    ((refine wpAnyH_take (i := 5) (oi := ⟨some 10, _, _, _, _, _⟩) (v := ?_) rfl (by kernel_rfl) (by kernel_rfl) (by kernel_rfl) (fun _ _ _ h => h) (Or.inl ⟨by rfl, ?_⟩) (by assumption) ?_; rotate_left 1; (focus (intro w hSw; (try dsimp only at hSw); go_simp <;> try (first | (with_reducible rfl) | (rw [if_neg (by omega)]) | (rw [if_pos (by omega)])))); try simp only [Act.put, List.setIfInBounds_toArray, List.set_cons_zero, List.set_cons_succ]))
    refine wpAnyH_done (by kernel_rfl) ?_ _
    have MB1 := Lib.hid (show MB w V1 w.heap.size w.heap.size (w.heap.size + 1) a0_0 la0_0 ca0_0 a0_1 la0_1 ca0_1 a1_0 a1_1 a1_2 from ⟨D1, by omega, G1, by omega, by omega, ⟨q1_0, q1_1⟩, ⟨q1_2, q1_3, q1_4⟩, fz1⟩)
    clear q1_0 q1_1 q1_2 q1_3 q1_4 fz1 hHeld
    go_wp2_with fail
    go_loopw [11] (fun i wr => ∃ k : Nat, k ≤ la2 ∧ i = .int .i64 (k : Int) ∧ Hid (MB w wr w.heap.size w.heap.size (w.heap.size + 1) a0_0 la0_0 ca0_0 a0_1 la0_1 ca0_1 (itB xa0_0 xa0_1 a1_0 a1_1 a1_2 xa2 (fun _ => 0) k).a a1_1 (itB xa0_0 xa0_1 a1_0 a1_1 a1_2 xa2 (fun _ => 0) k).c) ∧ Hid (∀ j, j < k → (fun k => decide (a3 ≤ lvAt xa0_0 xa0_1 (itB xa0_0 xa0_1 a1_0 a1_1 a1_2 xa2 (fun _ => 0) k).c)) j = false)) (fun i _ => la2 - (intOf i).toNat)
    case atStart => exact ⟨0, by omega, rfl, MB1, fun j hj => absurd hj (by omega)⟩
    case round =>
      obtain ⟨k, hk, rfl, hmb, hno⟩ := hrel
      obtain ⟨b1, _, _⟩ := itB_ok HB.out HH.out k (by omega)
      obtain ⟨av, hav⟩ : ∃ v, v = (itB xa0_0 xa0_1 a1_0 a1_1 a1_2 xa2 (fun _ => 0) k).a := ⟨_, rfl⟩
      obtain ⟨cv, hcv⟩ : ∃ v, v = (itB xa0_0 xa0_1 a1_0 a1_1 a1_2 xa2 (fun _ => 0) k).c := ⟨_, rfl⟩
      have HAV := Lib.hid hav
      have HCV := Lib.hid hcv
      rw [← hav, ← hcv] at hmb b1
      have BK := Lib.hid b1
      clear b1 hav hcv
      obtain ⟨dm, lq, lr, nq, lor, ⟨y0, y1⟩, ⟨x0, x1, x2⟩, f0, f1, f2⟩ := hmb.out
      obtain ⟨lv, hlv⟩ : ∃ v, v = lvAt xa0_0 xa0_1 cv := ⟨_, rfl⟩
      have HLV := Lib.hid hlv
      have hc0 := BK.out.2.1.2.2.1
      have hc1 := BK.out.2.2
      clear hlv
      by_cases hge : a3 ≤ lv
      · obtain ⟨e0, e1⟩ := YES.out k (by omega) hno.out (by show decide _ = true; rw [← HCV.out, ← HLV.out]; exact decide_eq_true hge)
        have ER := Lib.hid (show R0 = (k : Int) ∧ R1 = 0 from ⟨e0, e1⟩)
        clear e0 e1
        have g1 : lv ≥ a3 := hge
        go_wp2_with (go_at_call 63; refine (insS_t w.heap.size a0_0 la0_0 ca0_0 xa0_0 a0_1 la0_1 ca0_1 xa0_1 av a1_1 cv _ (by first | omega | (simp; done) | (simp; omega)) ⟨y0, y1⟩ ha0_0 ha0_1 ((RA.out.below dm).mono (by first | omega | (simp; done) | (simp; omega))) ((RB.out.below dm).mono (by first | omega | (simp; done) | (simp; omega))) BK.out.1 hc0 hc1 lv HLV.out).mono ?_; rintro e1 V2 ⟨rfl, B2⟩; have D2 := Lib.hid (dm.trans (B2.mono (by omega))))
        go_ret2
        exact ⟨ret_pair ER.out.1.symm ER.out.2.symm, D2.out⟩
      · have g1 : ¬ (lv ≥ a3) := hge
        have g1' : lv < a3 := by omega
        have HF := Lib.hid (show (fun k => decide (a3 ≤ lvAt xa0_0 xa0_1 (itB xa0_0 xa0_1 a1_0 a1_1 a1_2 xa2 (fun _ => 0) k).c)) k = false by show decide _ = false; rw [← HCV.out, ← HLV.out]; exact decide_eq_false hge)
        by_cases he : k = la2
        · have i1 : ((k : Int) == (la2 : Int)) = true := by simp; omega
          obtain ⟨e0, e1⟩ := NO.out (fun j hj => by
            by_cases ej : j = k
            · subst ej; exact HF.out
            · exact hno.out j (by omega))
          have ER := Lib.hid (show R0 = 0 ∧ R1 = 3 from ⟨e0, e1⟩)
          clear e0 e1 hge
          subst he
          go_wp2_with (go_at_call 63; refine (insS_t w.heap.size a0_0 la0_0 ca0_0 xa0_0 a0_1 la0_1 ca0_1 xa0_1 av a1_1 cv _ (by first | omega | (simp; done) | (simp; omega)) ⟨y0, y1⟩ ha0_0 ha0_1 ((RA.out.below dm).mono (by first | omega | (simp; done) | (simp; omega))) ((RB.out.below dm).mono (by first | omega | (simp; done) | (simp; omega))) BK.out.1 hc0 hc1 lv HLV.out).mono ?_; rintro e1 V2 ⟨rfl, B2⟩; have D2 := Lib.hid (dm.trans (B2.mono (by omega))))
          go_ret2
          exact ⟨ret_pair ER.out.1.symm ER.out.2.symm, D2.out⟩
        · have i1 : ((k : Int) == (la2 : Int)) = false := by simp; omega
          have i2 : (k : Int) < (la2 : Int) := by omega
          have i3 : k < la2 := by omega
          clear hge
          go_wp2_with (go_at_call 63; refine (insS_t w.heap.size a0_0 la0_0 ca0_0 xa0_0 a0_1 la0_1 ca0_1 xa0_1 av a1_1 cv _ (by first | omega | (simp; done) | (simp; omega)) ⟨y0, y1⟩ ha0_0 ha0_1 ((RA.out.below dm).mono (by first | omega | (simp; done) | (simp; omega))) ((RB.out.below dm).mono (by first | omega | (simp; done) | (simp; omega))) BK.out.1 hc0 hc1 lv HLV.out).mono ?_; rintro e1 V2 ⟨rfl, B2⟩; have M2 := Lib.hid (hmb.out.below B2 (by omega)); clear B2 y0 y1 x0 x1 x2 f0 f1 f2 lq lr dm)
          obtain ⟨d2, lq, lr, _, _, ⟨y0, y1⟩, ⟨x0, x1, x2⟩, f0, f1, f2⟩ := M2.out
          obtain ⟨ob, oo, rfl, hob, hoc⟩ := (RO.out.below d2).2 (by omega)
          have yo := hoc k i3
          obtain ⟨yv, hyv⟩ : ∃ y, y = xa2.getD k 0 := ⟨_, rfl⟩
          rw [← hyv] at yo
          have HY := Lib.hid (show levOk yv by rw [hyv]; exact HO.out.1 k (by omega))
          have HYV := Lib.hid hyv
          obtain ⟨a2v, ha2v⟩ : ∃ v, v = stW av (headN xa0_0 xa0_1 a1_1 cv yv) 0 := ⟨_, rfl⟩
          obtain ⟨c2v, hc2v⟩ : ∃ v, v = cv + inflN xa0_0 xa0_1 av a1_1 cv yv := ⟨_, rfl⟩
          obtain ⟨z2v, hz2v⟩ : ∃ v, v = cloN av (headN xa0_0 xa0_1 a1_1 cv yv) 0 := ⟨_, rfl⟩
          have E1 := Lib.hid ha2v
          have E2 := Lib.hid hc2v
          have E3 := Lib.hid hz2v
          clear hyv hoc ha2v hc2v hz2v
          refine wp_region_held_drew (S := fun w' => w'.cell? ⟨w.heap.size, 0, none⟩ = some (.slice a0_0 la0_0 ca0_0) ∧ w'.cell? ⟨w.heap.size, 1, none⟩ = some (.slice a0_1 la0_1 ca0_1) ∧ w'.cell? ⟨ob, oo + k, none⟩ = some (.int .i64 yv)) (by kernel_rfl) ⟨y0, y1, yo⟩ (fun hHeld => ?_)
          ((refine wpAnyH_take (i := 1) (oi := ⟨some 33, _, _, _, _, _⟩) (v := ?_) rfl (by kernel_rfl) (by kernel_rfl) (by kernel_rfl) (fun _ _ _ h => h) (Or.inl ⟨by rfl, ?_⟩) (by assumption) ?_; rotate_left 1; (focus (intro w hSw; (try dsimp only at hSw); go_simp <;> try (first | (with_reducible rfl) | (rw [if_neg (by omega)]) | (rw [if_pos (by omega)])))); try simp only [Act.put, List.setIfInBounds_toArray, List.set_cons_zero, List.set_cons_succ]); (refine wpAnyH_take (i := 2) (oi := ⟨some 34, _, _, _, _, _⟩) (v := ?_) rfl (by kernel_rfl) (by kernel_rfl) (by kernel_rfl) (fun _ _ _ h => h) (Or.inl ⟨by rfl, ?_⟩) (by assumption) ?_; rotate_left 1; (focus (intro w hSw; (try dsimp only at hSw); go_simp <;> try (first | (with_reducible rfl) | (rw [if_neg (by omega)]) | (rw [if_pos (by omega)])))); try simp only [Act.put, List.setIfInBounds_toArray, List.set_cons_zero, List.set_cons_succ]); (refine wpAnyH_take (i := 3) (oi := ⟨some 35, _, _, _, _, _⟩) (v := ?_) rfl (by kernel_rfl) (by kernel_rfl) (by kernel_rfl) (fun _ _ _ h => h) (Or.inl ⟨by rfl, ?_⟩) (by assumption) ?_; rotate_left 1; (focus (intro w hSw; (try dsimp only at hSw); go_simp <;> try (first | (with_reducible rfl) | (rw [if_neg (by omega)]) | (rw [if_pos (by omega)])))); try simp only [Act.put, List.setIfInBounds_toArray, List.set_cons_zero, List.set_cons_succ]); (refine wpAnyH_take (i := 4) (oi := ⟨some 36, _, _, _, _, _⟩) (v := ?_) rfl (by kernel_rfl) (by kernel_rfl) (by kernel_rfl) (fun _ _ _ h => h) (Or.inl ⟨by rfl, ?_⟩) (by assumption) ?_; rotate_left 1; (focus (intro w hSw; (try dsimp only at hSw); go_simp <;> try (first | (with_reducible rfl) | (rw [if_neg (by omega)]) | (rw [if_pos (by omega)])))); try simp only [Act.put, List.setIfInBounds_toArray, List.set_cons_zero, List.set_cons_succ]))
          refine wpAnyH_ready (rs := [0]) (by kernel_rfl) (by simp) ?_
          refine AllReadyH.cons (o := ⟨some 32, _, _, _, _, _⟩) rfl (fun K hK => ?_) AllReadyH.nil
          go_simp
          (refine hK.out _ _ ?_ (fun hHeld => ?_))
          · exact hHeld
          clear hK K
          refine wpAnyH_ready (rs := [5]) (by kernel_rfl) (by simp) ?_
          refine AllReadyH.cons (o := ⟨some 37, _, _, _, _, _⟩) rfl (fun K hK => ?_) AllReadyH.nil
          go_simp
          refine (stepS_t w.heap.size a0_0 la0_0 ca0_0 xa0_0 a0_1 la0_1 ca0_1 xa0_1 av a1_1 cv yv 0 _ (by first | omega | (simp; done) | (simp; omega)) ⟨hHeld.1, hHeld.2.1⟩ ha0_0 ha0_1 ((RA.out.below (below_drewN d2 1)).mono (by first | omega | (simp; done) | (simp; omega))) ((RB.out.below (below_drewN d2 1)).mono (by first | omega | (simp; done) | (simp; omega))) BK.out HY.out ⟨by omega, by omega⟩ a2v c2v z2v E1.out E2.out E3.out).mono ?_
          rintro e2v V3 ⟨rfl, B3⟩
          have M3 := Lib.hid (M2.out.belowD B3 (by omega))
          have yo3 := (B3.cell (p := ⟨ob, oo + k, none⟩) (by first | omega | (simp; done) | (simp; omega))).trans hHeld.2.2
          obtain ⟨d3, _, lr3, _, _, ⟨u0, u1⟩, _, _⟩ := M3.out
          clear hHeld
          (refine hK.out _ _ ?_ (fun hHeld => ?_))
          · exact ⟨u0, u1, yo3⟩
          clear hK K
          ((refine wpAnyH_take (i := 6) (oi := ⟨some 31, _, _, _, _, _⟩) (v := ?_) rfl (by kernel_rfl) (by kernel_rfl) (by kernel_rfl) (fun _ _ _ h => h) (Or.inl ⟨by rfl, ?_⟩) (by assumption) ?_; rotate_left 1; (focus (intro w hSw; (try dsimp only at hSw); go_simp <;> try (first | (with_reducible rfl) | (rw [if_neg (by omega)]) | (rw [if_pos (by omega)])))); try simp only [Act.put, List.setIfInBounds_toArray, List.set_cons_zero, List.set_cons_succ]); (refine wpAnyH_take (i := 7) (oi := ⟨some 38, _, _, _, _, _⟩) (v := ?_) rfl (by kernel_rfl) (by kernel_rfl) (by kernel_rfl) (fun _ _ _ h => h) (Or.inl ⟨by rfl, ?_⟩) (by assumption) ?_; rotate_left 1; (focus (intro w hSw; (try dsimp only at hSw); go_simp <;> try (first | (with_reducible rfl) | (rw [if_neg (by omega)]) | (rw [if_pos (by omega)])))); try simp only [Act.put, List.setIfInBounds_toArray, List.set_cons_zero, List.set_cons_succ]); (refine wpAnyH_take (i := 8) (oi := ⟨some 39, _, _, _, _, _⟩) (v := ?_) rfl (by kernel_rfl) (by kernel_rfl) (by kernel_rfl) (fun _ _ _ h => h) (Or.inl ⟨by rfl, ?_⟩) (by assumption) ?_; rotate_left 1; (focus (intro w hSw; (try dsimp only at hSw); go_simp <;> try (first | (with_reducible rfl) | (rw [if_neg (by omega)]) | (rw [if_pos (by omega)])))); try simp only [Act.put, List.setIfInBounds_toArray, List.set_cons_zero, List.set_cons_succ]))
          refine wpAnyH_ready (rs := [9]) (by kernel_rfl) (by simp) ?_
          refine AllReadyH.cons (o := ⟨none, _, _, _, _, _⟩) rfl (fun K hK => ?_) AllReadyH.nil
          go_simp
          have M4 := Lib.hid (M3.out.set a2v a1_1 c2v)
          obtain ⟨d4, _, _, _, _, ⟨t0, t1⟩, _, _⟩ := M4.out
          have yo4 : ((((V3.setCell ⟨w.heap.size + 1, 0, none⟩ (.int .i64 a2v)).setCell ⟨w.heap.size + 1, 1, none⟩ (.int .i64 a1_1)).setCell ⟨w.heap.size + 1, 2, none⟩ (.int .i64 c2v))).cell? ⟨ob, oo + k, none⟩ = _ := (World.cell?_setCell_other _ _ _ _ (fun e => by injection e; omega)).trans ((World.cell?_setCell_other _ _ _ _ (fun e => by injection e; omega)).trans ((World.cell?_setCell_other _ _ _ _ (fun e => by injection e; omega)).trans yo3))
          (refine hK.out _ _ ?_ (fun hHeld => ?_))
          · exact ⟨t0, t1, yo4⟩
          clear hK K
          refine wpAnyH_done (by kernel_rfl) ?_ _
          go_wp2
          go_roundw
          case rel =>
            have ea : (itB xa0_0 xa0_1 a1_0 a1_1 a1_2 xa2 (fun _ => 0) (k + 1)).a = a2v := by rw [E1.out, HYV.out, HAV.out, HCV.out]; rfl
            have ec : (itB xa0_0 xa0_1 a1_0 a1_1 a1_2 xa2 (fun _ => 0) (k + 1)).c = c2v := by rw [E2.out, HYV.out, HAV.out, HCV.out]; rfl
            exact ⟨k + 1, by omega, by go_num, (by rw [ea, ec]; exact M4), fun j hj => by
              by_cases ej : j = k
              · subst ej; exact HF.out
              · exact hno.out j (by omega)⟩
          case measure => simp [intOf]; omega
  · obtain ⟨t, ht⟩ : ∃ t, t = decide (levOk a3) := ⟨_, rfl⟩
    have HV := Lib.hid (show t = decide (levOk a3) ∧ True from ⟨ht, trivial⟩)
    obtain ⟨k, hk⟩ : ∃ k, k = bcode xa0_0 xa0_1 a1_0 a1_1 a1_2 (stepsOk xa2 ∧ levOk a3) := ⟨_, rfl⟩
    have hn := bcode_n h
    rw [← hk] at hn
    have HK := Lib.hid hk
    have ER := Lib.hid (show R0 = 0 ∧ R1 = k by rw [hR0, hR1]; unfold r0_HoursToLevel r1_HoursToLevel; rw [if_neg (fun g => h g.1), if_neg (fun g => h g.1)]; exact ⟨rfl, hk.symm⟩)
    clear h hR0 hR1 ht hk
    go_enter Tryd.func33, Tryd.ntmps33
    go_wp2_with fail
    refine wp_region_held_drew (S := fun w' => w'.cell? ⟨w.heap.size, 0, none⟩ = some (.slice a0_0 la0_0 ca0_0) ∧ w'.cell? ⟨w.heap.size, 1, none⟩ = some (.slice a0_1 la0_1 ca0_1) ∧ w'.cell? ⟨w.heap.size + 1, 0, none⟩ = some (.int .i64 a1_0) ∧ w'.cell? ⟨w.heap.size + 1, 1, none⟩ = some (.int .i64 a1_1) ∧ w'.cell? ⟨w.heap.size + 1, 2, none⟩ = some (.int .i64 a1_2)) (by kernel_rfl) ⟨by first | (simp; done) | go_simp, by first | (simp; done) | go_simp, by first | (simp; done) | go_simp, by first | (simp; done) | go_simp, by first | (simp; done) | go_simp⟩ (fun hHeld => ?_)
    ((refine wpAnyH_take (i := 0) (oi := ⟨some 12, _, _, _, _, _⟩) (v := ?_) rfl (by kernel_rfl) (by kernel_rfl) (by kernel_rfl) (fun _ _ _ h => h) (Or.inl ⟨by rfl, ?_⟩) (by assumption) ?_; rotate_left 1; (focus (intro w hSw; (try dsimp only at hSw); go_simp <;> try (first | (with_reducible rfl) | (rw [if_neg (by omega)]) | (rw [if_pos (by omega)])))); try simp only [Act.put, List.setIfInBounds_toArray, List.set_cons_zero, List.set_cons_succ]); (refine wpAnyH_take (i := 1) (oi := ⟨some 13, _, _, _, _, _⟩) (v := ?_) rfl (by kernel_rfl) (by kernel_rfl) (by kernel_rfl) (fun _ _ _ h => h) (Or.inl ⟨by rfl, ?_⟩) (by assumption) ?_; rotate_left 1; (focus (intro w hSw; (try dsimp only at hSw); go_simp <;> try (first | (with_reducible rfl) | (rw [if_neg (by omega)]) | (rw [if_pos (by omega)])))); try simp only [Act.put, List.setIfInBounds_toArray, List.set_cons_zero, List.set_cons_succ]); (refine wpAnyH_take (i := 2) (oi := ⟨some 14, _, _, _, _, _⟩) (v := ?_) rfl (by kernel_rfl) (by kernel_rfl) (by kernel_rfl) (fun _ _ _ h => h) (Or.inl ⟨by rfl, ?_⟩) (by assumption) ?_; rotate_left 1; (focus (intro w hSw; (try dsimp only at hSw); go_simp <;> try (first | (with_reducible rfl) | (rw [if_neg (by omega)]) | (rw [if_pos (by omega)])))); try simp only [Act.put, List.setIfInBounds_toArray, List.set_cons_zero, List.set_cons_succ]))
    (refine wpAnyH_ready (rs := [3]) (by kernel_rfl) (by simp) ?_; refine AllReadyH.cons rfl (fun K hK => ?_) AllReadyH.nil; go_simp)
    refine (l02L_any a3 _ t HV.out.1).mono ?_
    rintro e0v V0 ⟨rfl, rfl⟩
    have q0 := hHeld
    clear hHeld
    (refine hK.out _ _ ?_ (fun hHeld => ?_))
    · exact q0
    clear hK K
    (refine wpAnyH_ready (rs := [4]) (by kernel_rfl) (by simp) ?_; refine AllReadyH.cons rfl (fun K hK => ?_) AllReadyH.nil; go_simp)
    refine (l12List_any w.heap.size a0_0 la0_0 ca0_0 xa0_0 a0_1 la0_1 ca0_1 xa0_1 a1_0 a1_1 a1_2 a2 la2 ca2 xa2 t _ (by first | omega | (simp; done) | (simp; omega)) ⟨q0.1, q0.2.1⟩ ha0_0 ha0_1 ha2 ((RA.out.below (by repeat (first | assumption | exact Below.refl _ _ | (refine Below.setCell ?_ (by first | omega | (simp; done) | (simp; omega)) _) | apply below_drewN | apply Below.drew | (refine Below.alloc ?_ (by first | omega | (simp; done) | (simp; omega)) _)))).mono (by first | omega | (simp; done) | (simp; omega))) ((RB.out.below (by repeat (first | assumption | exact Below.refl _ _ | (refine Below.setCell ?_ (by first | omega | (simp; done) | (simp; omega)) _) | apply below_drewN | apply Below.drew | (refine Below.alloc ?_ (by first | omega | (simp; done) | (simp; omega)) _)))).mono (by first | omega | (simp; done) | (simp; omega))) ((RO.out.below (by repeat (first | assumption | exact Below.refl _ _ | (refine Below.setCell ?_ (by first | omega | (simp; done) | (simp; omega)) _) | apply below_drewN | apply Below.drew | (refine Below.alloc ?_ (by first | omega | (simp; done) | (simp; omega)) _)))).mono (by first | omega | (simp; done) | (simp; omega))) (levOk a3) HV.out.1 k HK.out).mono ?_
    rintro e1v V1 ⟨rfl, B1⟩
    have q1_0 := (B1.cell (p := ⟨w.heap.size, 0, none⟩) (by first | omega | (simp; done) | (simp; omega))).trans hHeld.1
    have q1_1 := (B1.cell (p := ⟨w.heap.size, 1, none⟩) (by first | omega | (simp; done) | (simp; omega))).trans hHeld.2.1
    have q1_2 := (B1.cell (p := ⟨w.heap.size + 1, 0, none⟩) (by first | omega | (simp; done) | (simp; omega))).trans hHeld.2.2.1
    have q1_3 := (B1.cell (p := ⟨w.heap.size + 1, 1, none⟩) (by first | omega | (simp; done) | (simp; omega))).trans hHeld.2.2.2.1
    have q1_4 := (B1.cell (p := ⟨w.heap.size + 1, 2, none⟩) (by first | omega | (simp; done) | (simp; omega))).trans hHeld.2.2.2.2
    have fz1 : V1.frozen? ⟨w.heap.size + 1, 0, none⟩ = false ∧ V1.frozen? ⟨w.heap.size + 1, 1, none⟩ = false ∧ V1.frozen? ⟨w.heap.size + 1, 2, none⟩ = false := ⟨(B1.frozen (p := ⟨w.heap.size + 1, 0, none⟩) (by first | omega | (simp; done) | (simp; omega))).trans (by first | (simp; done) | go_simp), (B1.frozen (p := ⟨w.heap.size + 1, 1, none⟩) (by first | omega | (simp; done) | (simp; omega))).trans (by first | (simp; done) | go_simp), (B1.frozen (p := ⟨w.heap.size + 1, 2, none⟩) (by first | omega | (simp; done) | (simp; omega))).trans (by first | (simp; done) | go_simp)⟩
    have G1 : w.heap.size + 1 < V1.heap.size := (by have := B1.size; (try simp at this); omega)
    have D1 : Below w.heap.size w V1 := (by repeat (first | assumption | exact Below.refl _ _ | (refine Below.trans ?_ (B1.mono (by first | omega | (simp; done) | (simp; omega)))) | (refine Below.setCell ?_ (by first | omega | (simp; done) | (simp; omega)) _) | apply below_drewN | apply Below.drew | (refine Below.alloc ?_ (by first | omega | (simp; done) | (simp; omega)) _)))
    clear hHeld
    (refine hK.out _ _ ?_ (fun hHeld => ?_))
    · exact ⟨q1_0, q1_1, q1_2, q1_3, q1_4⟩
    clear hK K
    ((refine wpAnyH_take (i := 5) (oi := ⟨some 10, _, _, _, _, _⟩) (v := ?_) rfl (by kernel_rfl) (by kernel_rfl) (by kernel_rfl) (fun _ _ _ h => h) (Or.inl ⟨by rfl, ?_⟩) (by assumption) ?_; rotate_left 1; (focus (intro w hSw; (try dsimp only at hSw); go_simp <;> try (first | (with_reducible rfl) | (rw [if_neg (by omega)]) | (rw [if_pos (by omega)])))); try simp only [Act.put, List.setIfInBounds_toArray, List.set_cons_zero, List.set_cons_succ]))
    refine wpAnyH_done (by kernel_rfl) ?_ _
    go_wp2
    go_ret2
    exact ⟨ret_pair ER.out.1.symm ER.out.2.symm, D1⟩


set_option maxRecDepth 100000 in
set_option maxHeartbeats 3200000 in
theorem implC_HoursToLevel (a0_0 : Option Addr) (la0_0 ca0_0 : Nat) (xa0_0 : List Int) (a0_1 : Option Addr) (la0_1 ca0_1 : Nat) (xa0_1 : List Int) (a1_0 : Int) (a1_1 : Int) (a1_2 : Int) (a2 : Option Addr) (la2 ca2 : Nat) (xa2 : List Int) (a3 : Int) (w : World) (ha0_0 : la0_0 ≤ 1048576) (ra0_0 : Rd w w.heap.size a0_0 la0_0 xa0_0) (fa0_0 : Wf xa0_0) (ha0_1 : la0_1 ≤ 1048576) (ra0_1 : Rd w w.heap.size a0_1 la0_1 xa0_1) (fa0_1 : Wf xa0_1) (ha1_0 : (Lit.int .i64 a1_0).wf = true) (ha1_1 : (Lit.int .i64 a1_1).wf = true) (ha1_2 : (Lit.int .i64 a1_2).wf = true) (ha2 : la2 ≤ 1048576) (ra2 : Rd w w.heap.size a2 la2 xa2) (fa2 : Wf xa2) (ha3 : (Lit.int .i64 a3).wf = true) (se0 se1 : Addr) (hsent : Sent w w.heap.size se0 se1) :
    Calls Tryd.prog 34 #[.agg #[.slice a0_0 la0_0 ca0_0, .slice a0_1 la0_1 ca0_1], .agg #[.int .i64 a1_0, .int .i64 a1_1, .int .i64 a1_2], .slice a2 la2 ca2, .int .i64 a3] w fun e w' => e = .returned (.tuple #[.int .i64 (r0_HoursToLevel xa0_0 xa0_1 a1_0 a1_1 a1_2 xa2 a3), .int .i64 (r1_HoursToLevel xa0_0 xa0_1 a1_0 a1_1 a1_2 xa2 a3)]) ∧ Below w.heap.size w w' := by
  have RA := Lib.hid ra0_0
  have RB := Lib.hid ra0_1
  have RO := Lib.hid ra2
  clear ra0_0 ra0_1 ra2
  have hlo := RO.out.1
  have HS := Lib.hid hsent
  clear hsent
  obtain ⟨R0, hR0⟩ : ∃ R, R = r0_HoursToLevel xa0_0 xa0_1 a1_0 a1_1 a1_2 xa2 a3 := ⟨_, rfl⟩
  obtain ⟨R1, hR1⟩ : ∃ R, R = r1_HoursToLevel xa0_0 xa0_1 a1_0 a1_1 a1_2 xa2 a3 := ⟨_, rfl⟩
  rw [← hR0, ← hR1]
  by_cases h : brOk xa0_0 xa0_1 a1_0 a1_1 a1_2 ∧ stepsOk xa2 ∧ levOk a3
  · have HB := Lib.hid h.1
    have HO := Lib.hid h.2.1
    obtain ⟨t1, ht1⟩ : ∃ t, t = true := ⟨_, rfl⟩
    obtain ⟨t2, ht2⟩ : ∃ t, t = true := ⟨_, rfl⟩
    have HK := Lib.hid (show (0 : Int) = bcode xa0_0 xa0_1 a1_0 a1_1 a1_2 (stepsOk xa2 ∧ levOk a3) from (by unfold bcode; rw [if_pos h.1, if_pos h.2]))
    have HA := Lib.hid (show t1 = decide (stepsOk xa2) from ht1.trans (decide_eq_true h.2.1).symm)
    have HV := Lib.hid (show t2 = decide (levOk a3) from ht2.trans (decide_eq_true h.2.2).symm)
    have HP := Lib.hid (show t2 = decide (stepsOk xa2 ∧ levOk a3) from ht2.trans (decide_eq_true h.2).symm)
    have h100 := h.2.1.2
    have HH := Lib.hid (hrs_ok (s := 0) h.2.1 ⟨by omega, by omega⟩)
    have HOK := Lib.hid h
    have YES := Lib.hid (show ∀ k, k ≤ xa2.length → (∀ j, j < k → (fun k => decide (lvAt xa0_0 xa0_1 (itB xa0_0 xa0_1 a1_0 a1_1 a1_2 xa2 (fun _ => 0) k).c < a3)) j = true) → (fun k => decide (lvAt xa0_0 xa0_1 (itB xa0_0 xa0_1 a1_0 a1_1 a1_2 xa2 (fun _ => 0) k).c < a3)) k = false → R0 = (k : Int) ∧ R1 = 0 from fun k hk hj hp => by
      rw [hR0, hR1]
      have e : f_HoursToLevel xa0_0 xa0_1 a1_0 a1_1 a1_2 xa2 a3 = k := f_at hk (fun j hj' => by have := of_decide_eq_true (hj j hj'); exact decide_eq_false (by omega)) (by have := of_decide_eq_false hp; exact decide_eq_true (by omega))
      unfold r0_HoursToLevel r1_HoursToLevel
      rw [e, if_pos ⟨HOK.out, hk⟩, if_neg (fun g => by omega)]
      exact ⟨rfl, HK.out.symm⟩)
    have NO := Lib.hid (show (∀ j, j ≤ xa2.length → (fun k => decide (lvAt xa0_0 xa0_1 (itB xa0_0 xa0_1 a1_0 a1_1 a1_2 xa2 (fun _ => 0) k).c < a3)) j = true) → R0 = 0 ∧ R1 = 3 from fun hj => by
      rw [hR0, hR1]
      have e : f_HoursToLevel xa0_0 xa0_1 a1_0 a1_1 a1_2 xa2 a3 = xa2.length + 1 := f_no (fun j hj' => by have := of_decide_eq_true (hj j hj'); exact decide_eq_false (by omega))
      unfold r0_HoursToLevel r1_HoursToLevel
      rw [e, if_neg (fun g => by omega), if_pos ⟨HOK.out, by omega⟩]
      exact ⟨rfl, rfl⟩)
    clear h hR0 hR1 ht2
    subst ht1
    go_enter Tryd.func34, Tryd.ntmps34
    go_wp2_with fail
    refine wp_region_held_drew (S := fun w' => w'.cell? ⟨w.heap.size, 0, none⟩ = some (.slice a0_0 la0_0 ca0_0) ∧ w'.cell? ⟨w.heap.size, 1, none⟩ = some (.slice a0_1 la0_1 ca0_1) ∧ w'.cell? ⟨w.heap.size + 1, 0, none⟩ = some (.int .i64 a1_0) ∧ w'.cell? ⟨w.heap.size + 1, 1, none⟩ = some (.int .i64 a1_1) ∧ w'.cell? ⟨w.heap.size + 1, 2, none⟩ = some (.int .i64 a1_2) ∧ w'.cell? ⟨w.heap.size + 1 + 1, 0, none⟩ = some (.int .i64 a3)) (by kernel_rfl) ⟨by first | (simp; done) | go_simp, by first | (simp; done) | go_simp, by first | (simp; done) | go_simp, by first | (simp; done) | go_simp, by first | (simp; done) | go_simp, by first | (simp; done) | go_simp⟩ (fun hHeld => ?_)
    ((refine wpAnyH_take (i := 0) (oi := ⟨some 12, _, _, _, _, _⟩) (v := ?_) rfl (by kernel_rfl) (by kernel_rfl) (by kernel_rfl) (fun _ _ _ h => h) (Or.inl ⟨by rfl, ?_⟩) (by assumption) ?_; rotate_left 1; (focus (intro w hSw; (try dsimp only at hSw); go_simp <;> try (first | (with_reducible rfl) | (rw [if_neg (by omega)]) | (rw [if_pos (by omega)])))); try simp only [Act.put, List.setIfInBounds_toArray, List.set_cons_zero, List.set_cons_succ]); (refine wpAnyH_take (i := 1) (oi := ⟨some 13, _, _, _, _, _⟩) (v := ?_) rfl (by kernel_rfl) (by kernel_rfl) (by kernel_rfl) (fun _ _ _ h => h) (Or.inl ⟨by rfl, ?_⟩) (by assumption) ?_; rotate_left 1; (focus (intro w hSw; (try dsimp only at hSw); go_simp <;> try (first | (with_reducible rfl) | (rw [if_neg (by omega)]) | (rw [if_pos (by omega)])))); try simp only [Act.put, List.setIfInBounds_toArray, List.set_cons_zero, List.set_cons_succ]); (refine wpAnyH_take (i := 2) (oi := ⟨some 14, _, _, _, _, _⟩) (v := ?_) rfl (by kernel_rfl) (by kernel_rfl) (by kernel_rfl) (fun _ _ _ h => h) (Or.inl ⟨by rfl, ?_⟩) (by assumption) ?_; rotate_left 1; (focus (intro w hSw; (try dsimp only at hSw); go_simp <;> try (first | (with_reducible rfl) | (rw [if_neg (by omega)]) | (rw [if_pos (by omega)])))); try simp only [Act.put, List.setIfInBounds_toArray, List.set_cons_zero, List.set_cons_succ]))
    (refine wpAnyH_ready (rs := [3]) (by kernel_rfl) (by simp) ?_; refine AllReadyH.cons rfl (fun K hK => ?_) AllReadyH.nil; go_simp)
    refine (asI_any a2 la2 ca2 xa2 _ ha2 ((RO.out.below (by repeat (first | assumption | exact Below.refl _ _ | (refine Below.setCell ?_ (by first | omega | (simp; done) | (simp; omega)) _) | apply below_drewN | apply Below.drew | (refine Below.alloc ?_ (by first | omega | (simp; done) | (simp; omega)) _)))).mono (by first | omega | (simp; done) | (simp; omega))) true HA.out).mono ?_
    rintro e0v V0 ⟨rfl, B0⟩
    have q0_0 := (B0.cell (p := ⟨w.heap.size, 0, none⟩) (by first | omega | (simp; done) | (simp; omega))).trans hHeld.1
    have q0_1 := (B0.cell (p := ⟨w.heap.size, 1, none⟩) (by first | omega | (simp; done) | (simp; omega))).trans hHeld.2.1
    have q0_2 := (B0.cell (p := ⟨w.heap.size + 1, 0, none⟩) (by first | omega | (simp; done) | (simp; omega))).trans hHeld.2.2.1
    have q0_3 := (B0.cell (p := ⟨w.heap.size + 1, 1, none⟩) (by first | omega | (simp; done) | (simp; omega))).trans hHeld.2.2.2.1
    have q0_4 := (B0.cell (p := ⟨w.heap.size + 1, 2, none⟩) (by first | omega | (simp; done) | (simp; omega))).trans hHeld.2.2.2.2.1
    have q0_5 := (B0.cell (p := ⟨w.heap.size + 1 + 1, 0, none⟩) (by first | omega | (simp; done) | (simp; omega))).trans hHeld.2.2.2.2.2
    have G0 : w.heap.size + 1 + 1 < V0.heap.size := (by have := B0.size; (try simp at this); omega)
    have D0 : Below w.heap.size w V0 := (by repeat (first | assumption | exact Below.refl _ _ | (refine Below.trans ?_ (B0.mono (by first | omega | (simp; done) | (simp; omega)))) | (refine Below.setCell ?_ (by first | omega | (simp; done) | (simp; omega)) _) | apply below_drewN | apply Below.drew | (refine Below.alloc ?_ (by first | omega | (simp; done) | (simp; omega)) _)))
    clear hHeld
    (refine hK.out _ _ ?_ (fun hHeld => ?_))
    · exact ⟨q0_0, q0_1, q0_2, q0_3, q0_4, q0_5⟩
    clear hK K
    ((refine wpAnyH_take (i := 4) (oi := ⟨some 16, _, _, _, _, _⟩) (v := ?_) rfl (by kernel_rfl) (by kernel_rfl) (by kernel_rfl) (fun _ _ _ h => h) (Or.inl ⟨by rfl, ?_⟩) (by assumption) ?_; rotate_left 1; (focus (intro w hSw; (try dsimp only at hSw); go_simp <;> try (first | (with_reducible rfl) | (rw [if_neg (by omega)]) | (rw [if_pos (by omega)])))); try simp only [Act.put, List.setIfInBounds_toArray, List.set_cons_zero, List.set_cons_succ]); (refine wpAnyH_take (i := 5) (oi := ⟨some 17, _, _, _, _, _⟩) (v := ?_) rfl (by kernel_rfl) (by kernel_rfl) (by kernel_rfl) (fun _ _ _ h => h) (Or.inl ⟨by rfl, ?_⟩) (by assumption) ?_; rotate_left 1; (focus (intro w hSw; (try dsimp only at hSw); go_simp <;> try (first | (with_reducible rfl) | (rw [if_neg (by omega)]) | (rw [if_pos (by omega)])))); try simp only [Act.put, List.setIfInBounds_toArray, List.set_cons_zero, List.set_cons_succ]))
    (refine wpAnyH_ready (rs := [6]) (by kernel_rfl) (by simp) ?_; refine AllReadyH.cons rfl (fun K hK => ?_) AllReadyH.nil; go_simp)
    refine (vlI_any a3 _ t2 HV.out).mono ?_
    rintro e1v V1 ⟨rfl, rfl⟩
    have q1 := hHeld
    clear hHeld
    (refine hK.out _ _ ?_ (fun hHeld => ?_))
    · exact q1
    clear hK K
    ((refine wpAnyH_take (i := 7) (oi := ⟨some 19, _, _, _, _, _⟩) (v := ?_) rfl (by kernel_rfl) (by kernel_rfl) (by kernel_rfl) (fun _ _ _ h => h) (Or.inl ⟨by rfl, ?_⟩) (by assumption) ?_; rotate_left 1; (focus (intro w hSw; (try dsimp only at hSw); go_simp <;> try (first | (with_reducible rfl) | (rw [if_neg (by omega)]) | (rw [if_pos (by omega)])))); try simp only [Act.put, List.setIfInBounds_toArray, List.set_cons_zero, List.set_cons_succ]))
    (refine wpAnyH_ready (rs := [8]) (by kernel_rfl) (by simp) ?_; refine AllReadyH.cons rfl (fun K hK => ?_) AllReadyH.nil; go_simp)
    refine (bcI_any a0_0 la0_0 ca0_0 xa0_0 a0_1 la0_1 ca0_1 xa0_1 a1_0 a1_1 a1_2 t2 _ ha0_0 ha0_1 ((RA.out.below (by repeat (first | assumption | exact Below.refl _ _ | (refine Below.trans ?_ (D0.mono (by first | omega | (simp; done) | (simp; omega)))) | (refine Below.setCell ?_ (by first | omega | (simp; done) | (simp; omega)) _) | apply below_drewN | apply Below.drew | (refine Below.alloc ?_ (by first | omega | (simp; done) | (simp; omega)) _)))).mono (by first | omega | (simp; done) | (simp; omega))) ((RB.out.below (by repeat (first | assumption | exact Below.refl _ _ | (refine Below.trans ?_ (D0.mono (by first | omega | (simp; done) | (simp; omega)))) | (refine Below.setCell ?_ (by first | omega | (simp; done) | (simp; omega)) _) | apply below_drewN | apply Below.drew | (refine Below.alloc ?_ (by first | omega | (simp; done) | (simp; omega)) _)))).mono (by first | omega | (simp; done) | (simp; omega))) (stepsOk xa2 ∧ levOk a3) HP.out 0 HK.out).mono ?_
    rintro e2v V2 ⟨rfl, B2⟩
    have q2_0 := (B2.cell (p := ⟨w.heap.size, 0, none⟩) (by first | omega | (simp; done) | (simp; omega))).trans hHeld.1
    have q2_1 := (B2.cell (p := ⟨w.heap.size, 1, none⟩) (by first | omega | (simp; done) | (simp; omega))).trans hHeld.2.1
    have q2_2 := (B2.cell (p := ⟨w.heap.size + 1, 0, none⟩) (by first | omega | (simp; done) | (simp; omega))).trans hHeld.2.2.1
    have q2_3 := (B2.cell (p := ⟨w.heap.size + 1, 1, none⟩) (by first | omega | (simp; done) | (simp; omega))).trans hHeld.2.2.2.1
    have q2_4 := (B2.cell (p := ⟨w.heap.size + 1, 2, none⟩) (by first | omega | (simp; done) | (simp; omega))).trans hHeld.2.2.2.2.1
    have q2_5 := (B2.cell (p := ⟨w.heap.size + 1 + 1, 0, none⟩) (by first | omega | (simp; done) | (simp; omega))).trans hHeld.2.2.2.2.2
    have G2 : w.heap.size + 1 + 1 < V2.heap.size := (by have := B2.size; (try simp at this); omega)
    have D2 : Below w.heap.size w V2 := (by repeat (first | assumption | exact Below.refl _ _ | (refine Below.trans ?_ (B2.mono (by first | omega | (simp; done) | (simp; omega)))) | (refine Below.trans ?_ (D0.mono (by first | omega | (simp; done) | (simp; omega)))) | (refine Below.setCell ?_ (by first | omega | (simp; done) | (simp; omega)) _) | apply below_drewN | apply Below.drew | (refine Below.alloc ?_ (by first | omega | (simp; done) | (simp; omega)) _)))
    clear hHeld
    (refine hK.out _ _ ?_ (fun hHeld => ?_))
    · exact ⟨q2_0, q2_1, q2_2, q2_3, q2_4, q2_5⟩
    clear hK K
    ((refine wpAnyH_take (i := 9) (oi := ⟨some 10, _, _, _, _, _⟩) (v := ?_) rfl (by kernel_rfl) (by kernel_rfl) (by kernel_rfl) (fun _ _ _ h => h) (Or.inl ⟨by rfl, ?_⟩) (by assumption) ?_; rotate_left 1; (focus (intro w hSw; (try dsimp only at hSw); go_simp <;> try (first | (with_reducible rfl) | (rw [if_neg (by omega)]) | (rw [if_pos (by omega)])))); try simp only [Act.put, List.setIfInBounds_toArray, List.set_cons_zero, List.set_cons_succ]))
    refine wpAnyH_done (by kernel_rfl) ?_ _
    have Y2 := Lib.hid (show V2.cell? ⟨w.heap.size + 1 + 1, 0, none⟩ = some (.int .i64 a3) from q2_5)
    have Y0 := Lib.hid (show V2.cell? ⟨w.heap.size, 0, none⟩ = some (.slice a0_0 la0_0 ca0_0) ∧ V2.cell? ⟨w.heap.size, 1, none⟩ = some (.slice a0_1 la0_1 ca0_1) ∧ V2.cell? ⟨w.heap.size + 1, 0, none⟩ = some (.int .i64 a1_0) ∧ V2.cell? ⟨w.heap.size + 1, 1, none⟩ = some (.int .i64 a1_1) ∧ V2.cell? ⟨w.heap.size + 1, 2, none⟩ = some (.int .i64 a1_2) from ⟨q2_0, q2_1, q2_2, q2_3, q2_4⟩)
    have D2H := Lib.hid D2
    clear B0 B2 D0 G0
    go_wp2_with fail
    refine (pw_e a0_0 la0_0 ca0_0 a0_1 la0_1 ca0_1 a1_0 a1_1 a1_2 0 a2 la2 ca2 _ ha2).mono ?_
    rintro e3 W3 ⟨tb, rfl, b3, tb1, tb2, hst⟩
    have b3' : Below V2.heap.size V2 W3 := ⟨b3.os, b3.tape, b3.output, b3.size, b3.block⟩
    have s3 : V2.heap.size ≤ W3.heap.size := b3'.size
    have B3H := Lib.hid b3'
    have D3H := Lib.hid (show Below w.heap.size w W3 from D2H.out.trans (b3'.mono (by omega)))
    have HST := Lib.hid hst
    clear b3 b3' hst D2 q2_0 q2_1 q2_2 q2_3 q2_4 q2_5 hHeld
    go_wp2_with fail
    have PN := PBox.new W3 a1_0 a1_1 a1_2 0 0 a0_0 la0_0 ca0_0 a0_1 la0_1 ca0_1 (.slice a2 la2 ca2) (.slice (some ⟨tb, 0, none⟩) la2 la2)
    have A3 : Below W3.heap.size W3 (W3.alloc (.cells #[.int .i64 a1_0, .int .i64 a1_1, .int .i64 a1_2, .slice a0_0 la0_0 ca0_0, .slice a0_1 la0_1 ca0_1, .slice a2 la2 ca2, .slice (some ⟨tb, 0, none⟩) la2 la2, .int .i64 0, .int .i64 0] 62)) := Below.alloc (Below.refl _ _) (Nat.le_refl _) _
    have D4 := D3H.out.trans (A3.mono (show w.heap.size ≤ W3.heap.size by omega))
    have RK := Lib.hid (show RunOk (W3.alloc (.cells #[.int .i64 a1_0, .int .i64 a1_1, .int .i64 a1_2, .slice a0_0 la0_0 ca0_0, .slice a0_1 la0_1 ca0_1, .slice a2 la2 ca2, .slice (some ⟨tb, 0, none⟩) la2 la2, .int .i64 0, .int .i64 0] 62)) W3.heap.size a0_0 la0_0 ca0_0 xa0_0 a0_1 la0_1 ca0_1 xa0_1 a1_0 a1_1 a1_2 a2 la2 ca2 (some ⟨tb, 0, none⟩) la2 la2 xa2 (fun _ => 0) se0 se1 from
      ⟨PN, (RA.out.below D4).mono (by omega), (RB.out.below D4).mono (by omega), (RO.out.below D4).mono (by omega), ha0_0, ha0_1, by omega, Nat.le_refl _, ha2, fun k hk => ⟨tb, 0, rfl, tb1, (A3.cell (p := ⟨tb, 0 + k, none⟩) tb1).trans (HST.out k hk)⟩, HB.out, HH.out, (HS.out.below D4).mono (by omega)⟩)
    have Y4 := Lib.hid ((A3.cell (p := ⟨w.heap.size + 1 + 1, 0, none⟩) (show w.heap.size + 1 + 1 < W3.heap.size by omega)).trans ((B3H.out.cell (p := ⟨w.heap.size + 1 + 1, 0, none⟩) G2).trans Y2.out))
    have A3H := Lib.hid A3
    have D4H := Lib.hid D4
    clear PN A3 D4
    generalize hX : W3.alloc (.cells #[.int .i64 a1_0, .int .i64 a1_1, .int .i64 a1_2, .slice a0_0 la0_0 ca0_0, .slice a0_1 la0_1 ca0_1, .slice a2 la2 ca2, .slice (some ⟨tb, 0, none⟩) la2 la2, .int .i64 0, .int .i64 0] 62) = X at RK Y4 A3H D4H ⊢
    have HX := Lib.hid hX
    clear hX
    go_wp2_with fail
    refine (run_t X W3.heap.size a0_0 la0_0 ca0_0 xa0_0 a0_1 la0_1 ca0_1 xa0_1 a1_0 a1_1 a1_2 a2 la2 ca2 (some ⟨tb, 0, none⟩) la2 la2 xa2 (fun _ => 0) se0 se1 RK.out 64 #[.pointer (some ⟨W3.heap.size, 0, none⟩), .pointer (some ⟨w.heap.size + 1 + 1, 0, none⟩)] (fun _ => by kernel_rfl) (fun k => decide (lvAt xa0_0 xa0_1 (itB xa0_0 xa0_1 a1_0 a1_1 a1_2 xa2 (fun _ => 0) k).c < a3)) (fun k W hk q => by
        obtain ⟨b1, _, _⟩ := itB_ok HB.out HH.out k (by omega)
        have hq0 := RK.out.pb.sz
        have dX : Below W3.heap.size X W := q.ch.below (Nat.le_refl _) (by omega)
        have hs : X.heap.size ≤ W.heap.size := q.ch.size
        exact clL_t W3.heap.size (w.heap.size + 1 + 1) a0_0 la0_0 ca0_0 xa0_0 a0_1 la0_1 ca0_1 xa0_1 _ a1_1 _ a3 _ _ _ _ W q.pb (by omega) ((dX.cell (p := ⟨w.heap.size + 1 + 1, 0, none⟩) (show w.heap.size + 1 + 1 < W3.heap.size by omega)).trans Y4.out) ha0_0 ha0_1 ((RK.out.ra.below dX).mono (by omega)) ((RK.out.rb.below dX).mono (by omega)) b1 se0 se1 ((RK.out.se.below dX).mono (by omega)) _ rfl)).mono ?_
    rintro e5 W5 ⟨v, k, rfl, q5, hk5, hj5, hv5⟩
    have hq0 := RK.out.pb.sz
    have D5H := Lib.hid (show Below w.heap.size w W5 from D4H.out.trans (q5.ch.below (by omega) (by omega)))
    have HJ := Lib.hid hj5
    obtain ⟨s5, ⟨_, _, _, _, _, _, _, y7, _⟩, _⟩ := q5.pb
    have Q5 := Lib.hid q5.ch
    clear hj5 q5
    rcases hv5 with ⟨rfl, hp5⟩ | ⟨rfl, rfl, hp5⟩
    · have ER := Lib.hid (YES.out k (by omega) HJ.out hp5)
      clear hp5
      go_wp2
      go_ret2
      exact ⟨ret_pair ER.out.1.symm ER.out.2.symm, D5H.out⟩
    · have ER := Lib.hid (NO.out (fun j hj => by
        by_cases ej : j = k
        · subst ej; exact hp5
        · exact HJ.out j (by omega)))
      clear hp5
      go_wp2
      go_ret2
      exact ⟨ret_pair ER.out.1.symm ER.out.2.symm, D5H.out⟩
  · obtain ⟨k, hk⟩ : ∃ k, k = bcode xa0_0 xa0_1 a1_0 a1_1 a1_2 (stepsOk xa2 ∧ levOk a3) := ⟨_, rfl⟩
    have hn := bcode_n h
    rw [← hk] at hn
    have HK := Lib.hid hk
    have ER := Lib.hid (show R0 = 0 ∧ R1 = k by rw [hR0, hR1]; unfold r0_HoursToLevel r1_HoursToLevel; rw [if_neg (fun g => h g.1), if_neg (fun g => h g.1)]; exact ⟨rfl, hk.symm⟩)
    by_cases h1 : stepsOk xa2
    · obtain ⟨t1, ht1⟩ : ∃ t, t = true := ⟨_, rfl⟩
      obtain ⟨t2, ht2⟩ : ∃ t, t = decide (levOk a3) := ⟨_, rfl⟩
      have HA := Lib.hid (show t1 = decide (stepsOk xa2) from ht1.trans (decide_eq_true h1).symm)
      have HV := Lib.hid ht2
      have HP := Lib.hid (show t2 = decide (stepsOk xa2 ∧ levOk a3) by rw [ht2]; exact decide_eq_decide.2 ⟨fun g => ⟨h1, g⟩, fun g => g.2⟩)
      clear h h1 hk hR0 hR1 ht2
      subst ht1
      go_enter Tryd.func34, Tryd.ntmps34
      go_wp2_with fail
      refine wp_region_held_drew (S := fun w' => w'.cell? ⟨w.heap.size, 0, none⟩ = some (.slice a0_0 la0_0 ca0_0) ∧ w'.cell? ⟨w.heap.size, 1, none⟩ = some (.slice a0_1 la0_1 ca0_1) ∧ w'.cell? ⟨w.heap.size + 1, 0, none⟩ = some (.int .i64 a1_0) ∧ w'.cell? ⟨w.heap.size + 1, 1, none⟩ = some (.int .i64 a1_1) ∧ w'.cell? ⟨w.heap.size + 1, 2, none⟩ = some (.int .i64 a1_2) ∧ w'.cell? ⟨w.heap.size + 1 + 1, 0, none⟩ = some (.int .i64 a3)) (by kernel_rfl) ⟨by first | (simp; done) | go_simp, by first | (simp; done) | go_simp, by first | (simp; done) | go_simp, by first | (simp; done) | go_simp, by first | (simp; done) | go_simp, by first | (simp; done) | go_simp⟩ (fun hHeld => ?_)
      ((refine wpAnyH_take (i := 0) (oi := ⟨some 12, _, _, _, _, _⟩) (v := ?_) rfl (by kernel_rfl) (by kernel_rfl) (by kernel_rfl) (fun _ _ _ h => h) (Or.inl ⟨by rfl, ?_⟩) (by assumption) ?_; rotate_left 1; (focus (intro w hSw; (try dsimp only at hSw); go_simp <;> try (first | (with_reducible rfl) | (rw [if_neg (by omega)]) | (rw [if_pos (by omega)])))); try simp only [Act.put, List.setIfInBounds_toArray, List.set_cons_zero, List.set_cons_succ]); (refine wpAnyH_take (i := 1) (oi := ⟨some 13, _, _, _, _, _⟩) (v := ?_) rfl (by kernel_rfl) (by kernel_rfl) (by kernel_rfl) (fun _ _ _ h => h) (Or.inl ⟨by rfl, ?_⟩) (by assumption) ?_; rotate_left 1; (focus (intro w hSw; (try dsimp only at hSw); go_simp <;> try (first | (with_reducible rfl) | (rw [if_neg (by omega)]) | (rw [if_pos (by omega)])))); try simp only [Act.put, List.setIfInBounds_toArray, List.set_cons_zero, List.set_cons_succ]); (refine wpAnyH_take (i := 2) (oi := ⟨some 14, _, _, _, _, _⟩) (v := ?_) rfl (by kernel_rfl) (by kernel_rfl) (by kernel_rfl) (fun _ _ _ h => h) (Or.inl ⟨by rfl, ?_⟩) (by assumption) ?_; rotate_left 1; (focus (intro w hSw; (try dsimp only at hSw); go_simp <;> try (first | (with_reducible rfl) | (rw [if_neg (by omega)]) | (rw [if_pos (by omega)])))); try simp only [Act.put, List.setIfInBounds_toArray, List.set_cons_zero, List.set_cons_succ]))
      (refine wpAnyH_ready (rs := [3]) (by kernel_rfl) (by simp) ?_; refine AllReadyH.cons rfl (fun K hK => ?_) AllReadyH.nil; go_simp)
      refine (asI_any a2 la2 ca2 xa2 _ ha2 ((RO.out.below (by repeat (first | assumption | exact Below.refl _ _ | (refine Below.setCell ?_ (by first | omega | (simp; done) | (simp; omega)) _) | apply below_drewN | apply Below.drew | (refine Below.alloc ?_ (by first | omega | (simp; done) | (simp; omega)) _)))).mono (by first | omega | (simp; done) | (simp; omega))) true HA.out).mono ?_
      rintro e0v V0 ⟨rfl, B0⟩
      have q0_0 := (B0.cell (p := ⟨w.heap.size, 0, none⟩) (by first | omega | (simp; done) | (simp; omega))).trans hHeld.1
      have q0_1 := (B0.cell (p := ⟨w.heap.size, 1, none⟩) (by first | omega | (simp; done) | (simp; omega))).trans hHeld.2.1
      have q0_2 := (B0.cell (p := ⟨w.heap.size + 1, 0, none⟩) (by first | omega | (simp; done) | (simp; omega))).trans hHeld.2.2.1
      have q0_3 := (B0.cell (p := ⟨w.heap.size + 1, 1, none⟩) (by first | omega | (simp; done) | (simp; omega))).trans hHeld.2.2.2.1
      have q0_4 := (B0.cell (p := ⟨w.heap.size + 1, 2, none⟩) (by first | omega | (simp; done) | (simp; omega))).trans hHeld.2.2.2.2.1
      have q0_5 := (B0.cell (p := ⟨w.heap.size + 1 + 1, 0, none⟩) (by first | omega | (simp; done) | (simp; omega))).trans hHeld.2.2.2.2.2
      have G0 : w.heap.size + 1 + 1 < V0.heap.size := (by have := B0.size; (try simp at this); omega)
      have D0 : Below w.heap.size w V0 := (by repeat (first | assumption | exact Below.refl _ _ | (refine Below.trans ?_ (B0.mono (by first | omega | (simp; done) | (simp; omega)))) | (refine Below.setCell ?_ (by first | omega | (simp; done) | (simp; omega)) _) | apply below_drewN | apply Below.drew | (refine Below.alloc ?_ (by first | omega | (simp; done) | (simp; omega)) _)))
      clear hHeld
      (refine hK.out _ _ ?_ (fun hHeld => ?_))
      · exact ⟨q0_0, q0_1, q0_2, q0_3, q0_4, q0_5⟩
      clear hK K
      ((refine wpAnyH_take (i := 4) (oi := ⟨some 16, _, _, _, _, _⟩) (v := ?_) rfl (by kernel_rfl) (by kernel_rfl) (by kernel_rfl) (fun _ _ _ h => h) (Or.inl ⟨by rfl, ?_⟩) (by assumption) ?_; rotate_left 1; (focus (intro w hSw; (try dsimp only at hSw); go_simp <;> try (first | (with_reducible rfl) | (rw [if_neg (by omega)]) | (rw [if_pos (by omega)])))); try simp only [Act.put, List.setIfInBounds_toArray, List.set_cons_zero, List.set_cons_succ]); (refine wpAnyH_take (i := 5) (oi := ⟨some 17, _, _, _, _, _⟩) (v := ?_) rfl (by kernel_rfl) (by kernel_rfl) (by kernel_rfl) (fun _ _ _ h => h) (Or.inl ⟨by rfl, ?_⟩) (by assumption) ?_; rotate_left 1; (focus (intro w hSw; (try dsimp only at hSw); go_simp <;> try (first | (with_reducible rfl) | (rw [if_neg (by omega)]) | (rw [if_pos (by omega)])))); try simp only [Act.put, List.setIfInBounds_toArray, List.set_cons_zero, List.set_cons_succ]))
      (refine wpAnyH_ready (rs := [6]) (by kernel_rfl) (by simp) ?_; refine AllReadyH.cons rfl (fun K hK => ?_) AllReadyH.nil; go_simp)
      refine (vlI_any a3 _ t2 HV.out).mono ?_
      rintro e1v V1 ⟨rfl, rfl⟩
      have q1 := hHeld
      clear hHeld
      (refine hK.out _ _ ?_ (fun hHeld => ?_))
      · exact q1
      clear hK K
      ((refine wpAnyH_take (i := 7) (oi := ⟨some 19, _, _, _, _, _⟩) (v := ?_) rfl (by kernel_rfl) (by kernel_rfl) (by kernel_rfl) (fun _ _ _ h => h) (Or.inl ⟨by rfl, ?_⟩) (by assumption) ?_; rotate_left 1; (focus (intro w hSw; (try dsimp only at hSw); go_simp <;> try (first | (with_reducible rfl) | (rw [if_neg (by omega)]) | (rw [if_pos (by omega)])))); try simp only [Act.put, List.setIfInBounds_toArray, List.set_cons_zero, List.set_cons_succ]))
      (refine wpAnyH_ready (rs := [8]) (by kernel_rfl) (by simp) ?_; refine AllReadyH.cons rfl (fun K hK => ?_) AllReadyH.nil; go_simp)
      refine (bcI_any a0_0 la0_0 ca0_0 xa0_0 a0_1 la0_1 ca0_1 xa0_1 a1_0 a1_1 a1_2 t2 _ ha0_0 ha0_1 ((RA.out.below (by repeat (first | assumption | exact Below.refl _ _ | (refine Below.trans ?_ (D0.mono (by first | omega | (simp; done) | (simp; omega)))) | (refine Below.setCell ?_ (by first | omega | (simp; done) | (simp; omega)) _) | apply below_drewN | apply Below.drew | (refine Below.alloc ?_ (by first | omega | (simp; done) | (simp; omega)) _)))).mono (by first | omega | (simp; done) | (simp; omega))) ((RB.out.below (by repeat (first | assumption | exact Below.refl _ _ | (refine Below.trans ?_ (D0.mono (by first | omega | (simp; done) | (simp; omega)))) | (refine Below.setCell ?_ (by first | omega | (simp; done) | (simp; omega)) _) | apply below_drewN | apply Below.drew | (refine Below.alloc ?_ (by first | omega | (simp; done) | (simp; omega)) _)))).mono (by first | omega | (simp; done) | (simp; omega))) (stepsOk xa2 ∧ levOk a3) HP.out k HK.out).mono ?_
      rintro e2v V2 ⟨rfl, B2⟩
      have q2_0 := (B2.cell (p := ⟨w.heap.size, 0, none⟩) (by first | omega | (simp; done) | (simp; omega))).trans hHeld.1
      have q2_1 := (B2.cell (p := ⟨w.heap.size, 1, none⟩) (by first | omega | (simp; done) | (simp; omega))).trans hHeld.2.1
      have q2_2 := (B2.cell (p := ⟨w.heap.size + 1, 0, none⟩) (by first | omega | (simp; done) | (simp; omega))).trans hHeld.2.2.1
      have q2_3 := (B2.cell (p := ⟨w.heap.size + 1, 1, none⟩) (by first | omega | (simp; done) | (simp; omega))).trans hHeld.2.2.2.1
      have q2_4 := (B2.cell (p := ⟨w.heap.size + 1, 2, none⟩) (by first | omega | (simp; done) | (simp; omega))).trans hHeld.2.2.2.2.1
      have q2_5 := (B2.cell (p := ⟨w.heap.size + 1 + 1, 0, none⟩) (by first | omega | (simp; done) | (simp; omega))).trans hHeld.2.2.2.2.2
      have G2 : w.heap.size + 1 + 1 < V2.heap.size := (by have := B2.size; (try simp at this); omega)
      have D2 : Below w.heap.size w V2 := (by repeat (first | assumption | exact Below.refl _ _ | (refine Below.trans ?_ (B2.mono (by first | omega | (simp; done) | (simp; omega)))) | (refine Below.trans ?_ (D0.mono (by first | omega | (simp; done) | (simp; omega)))) | (refine Below.setCell ?_ (by first | omega | (simp; done) | (simp; omega)) _) | apply below_drewN | apply Below.drew | (refine Below.alloc ?_ (by first | omega | (simp; done) | (simp; omega)) _)))
      clear hHeld
      (refine hK.out _ _ ?_ (fun hHeld => ?_))
      · exact ⟨q2_0, q2_1, q2_2, q2_3, q2_4, q2_5⟩
      clear hK K
      ((refine wpAnyH_take (i := 9) (oi := ⟨some 10, _, _, _, _, _⟩) (v := ?_) rfl (by kernel_rfl) (by kernel_rfl) (by kernel_rfl) (fun _ _ _ h => h) (Or.inl ⟨by rfl, ?_⟩) (by assumption) ?_; rotate_left 1; (focus (intro w hSw; (try dsimp only at hSw); go_simp <;> try (first | (with_reducible rfl) | (rw [if_neg (by omega)]) | (rw [if_pos (by omega)])))); try simp only [Act.put, List.setIfInBounds_toArray, List.set_cons_zero, List.set_cons_succ]))
      refine wpAnyH_done (by kernel_rfl) ?_ _
      go_wp2
      go_ret2
      exact ⟨ret_pair ER.out.1.symm ER.out.2.symm, D2⟩
    · have HA := Lib.hid (show false = decide (stepsOk xa2) from (decide_eq_false h1).symm)
      have HP := Lib.hid (show false = decide (stepsOk xa2 ∧ levOk a3) from (decide_eq_false (fun g => h1 g.1)).symm)
      clear h h1 hk hR0 hR1
      go_enter Tryd.func34, Tryd.ntmps34
      go_wp2_with fail
      refine wp_region_held_drew (S := fun w' => w'.cell? ⟨w.heap.size, 0, none⟩ = some (.slice a0_0 la0_0 ca0_0) ∧ w'.cell? ⟨w.heap.size, 1, none⟩ = some (.slice a0_1 la0_1 ca0_1) ∧ w'.cell? ⟨w.heap.size + 1, 0, none⟩ = some (.int .i64 a1_0) ∧ w'.cell? ⟨w.heap.size + 1, 1, none⟩ = some (.int .i64 a1_1) ∧ w'.cell? ⟨w.heap.size + 1, 2, none⟩ = some (.int .i64 a1_2) ∧ w'.cell? ⟨w.heap.size + 1 + 1, 0, none⟩ = some (.int .i64 a3)) (by kernel_rfl) ⟨by first | (simp; done) | go_simp, by first | (simp; done) | go_simp, by first | (simp; done) | go_simp, by first | (simp; done) | go_simp, by first | (simp; done) | go_simp, by first | (simp; done) | go_simp⟩ (fun hHeld => ?_)
      ((refine wpAnyH_take (i := 0) (oi := ⟨some 12, _, _, _, _, _⟩) (v := ?_) rfl (by kernel_rfl) (by kernel_rfl) (by kernel_rfl) (fun _ _ _ h => h) (Or.inl ⟨by rfl, ?_⟩) (by assumption) ?_; rotate_left 1; (focus (intro w hSw; (try dsimp only at hSw); go_simp <;> try (first | (with_reducible rfl) | (rw [if_neg (by omega)]) | (rw [if_pos (by omega)])))); try simp only [Act.put, List.setIfInBounds_toArray, List.set_cons_zero, List.set_cons_succ]); (refine wpAnyH_take (i := 1) (oi := ⟨some 13, _, _, _, _, _⟩) (v := ?_) rfl (by kernel_rfl) (by kernel_rfl) (by kernel_rfl) (fun _ _ _ h => h) (Or.inl ⟨by rfl, ?_⟩) (by assumption) ?_; rotate_left 1; (focus (intro w hSw; (try dsimp only at hSw); go_simp <;> try (first | (with_reducible rfl) | (rw [if_neg (by omega)]) | (rw [if_pos (by omega)])))); try simp only [Act.put, List.setIfInBounds_toArray, List.set_cons_zero, List.set_cons_succ]); (refine wpAnyH_take (i := 2) (oi := ⟨some 14, _, _, _, _, _⟩) (v := ?_) rfl (by kernel_rfl) (by kernel_rfl) (by kernel_rfl) (fun _ _ _ h => h) (Or.inl ⟨by rfl, ?_⟩) (by assumption) ?_; rotate_left 1; (focus (intro w hSw; (try dsimp only at hSw); go_simp <;> try (first | (with_reducible rfl) | (rw [if_neg (by omega)]) | (rw [if_pos (by omega)])))); try simp only [Act.put, List.setIfInBounds_toArray, List.set_cons_zero, List.set_cons_succ]))
      (refine wpAnyH_ready (rs := [3]) (by kernel_rfl) (by simp) ?_; refine AllReadyH.cons rfl (fun K hK => ?_) AllReadyH.nil; go_simp)
      refine (asI_any a2 la2 ca2 xa2 _ ha2 ((RO.out.below (by repeat (first | assumption | exact Below.refl _ _ | (refine Below.setCell ?_ (by first | omega | (simp; done) | (simp; omega)) _) | apply below_drewN | apply Below.drew | (refine Below.alloc ?_ (by first | omega | (simp; done) | (simp; omega)) _)))).mono (by first | omega | (simp; done) | (simp; omega))) false HA.out).mono ?_
      rintro e0v V0 ⟨rfl, B0⟩
      have q0_0 := (B0.cell (p := ⟨w.heap.size, 0, none⟩) (by first | omega | (simp; done) | (simp; omega))).trans hHeld.1
      have q0_1 := (B0.cell (p := ⟨w.heap.size, 1, none⟩) (by first | omega | (simp; done) | (simp; omega))).trans hHeld.2.1
      have q0_2 := (B0.cell (p := ⟨w.heap.size + 1, 0, none⟩) (by first | omega | (simp; done) | (simp; omega))).trans hHeld.2.2.1
      have q0_3 := (B0.cell (p := ⟨w.heap.size + 1, 1, none⟩) (by first | omega | (simp; done) | (simp; omega))).trans hHeld.2.2.2.1
      have q0_4 := (B0.cell (p := ⟨w.heap.size + 1, 2, none⟩) (by first | omega | (simp; done) | (simp; omega))).trans hHeld.2.2.2.2.1
      have q0_5 := (B0.cell (p := ⟨w.heap.size + 1 + 1, 0, none⟩) (by first | omega | (simp; done) | (simp; omega))).trans hHeld.2.2.2.2.2
      have G0 : w.heap.size + 1 + 1 < V0.heap.size := (by have := B0.size; (try simp at this); omega)
      have D0 : Below w.heap.size w V0 := (by repeat (first | assumption | exact Below.refl _ _ | (refine Below.trans ?_ (B0.mono (by first | omega | (simp; done) | (simp; omega)))) | (refine Below.setCell ?_ (by first | omega | (simp; done) | (simp; omega)) _) | apply below_drewN | apply Below.drew | (refine Below.alloc ?_ (by first | omega | (simp; done) | (simp; omega)) _)))
      clear hHeld
      (refine hK.out _ _ ?_ (fun hHeld => ?_))
      · exact ⟨q0_0, q0_1, q0_2, q0_3, q0_4, q0_5⟩
      clear hK K
      ((refine wpAnyH_take (i := 4) (oi := ⟨some 16, _, _, _, _, _⟩) (v := ?_) rfl (by kernel_rfl) (by kernel_rfl) (by kernel_rfl) (fun _ _ _ h => h) (Or.inl ⟨by rfl, ?_⟩) (by assumption) ?_; rotate_left 1; (focus (intro w hSw; (try dsimp only at hSw); go_simp <;> try (first | (with_reducible rfl) | (rw [if_neg (by omega)]) | (rw [if_pos (by omega)])))); try simp only [Act.put, List.setIfInBounds_toArray, List.set_cons_zero, List.set_cons_succ]); (refine wpAnyH_take (i := 5) (oi := ⟨some 17, _, _, _, _, _⟩) (v := undef) rfl (by kernel_rfl) (by kernel_rfl) (by kernel_rfl) (fun _ _ _ h => h) (Or.inr ⟨by rfl, rfl⟩) (by assumption) ?_; try simp only [Act.put, List.setIfInBounds_toArray, List.set_cons_zero, List.set_cons_succ]); (refine wpAnyH_take (i := 6) (oi := ⟨some 18, _, _, _, _, _⟩) (v := undef) rfl (by kernel_rfl) (by kernel_rfl) (by kernel_rfl) (fun _ _ _ h => h) (Or.inr ⟨by rfl, rfl⟩) (by assumption) ?_; try simp only [Act.put, List.setIfInBounds_toArray, List.set_cons_zero, List.set_cons_succ]); (refine wpAnyH_take (i := 7) (oi := ⟨some 19, _, _, _, _, _⟩) (v := ?_) rfl (by kernel_rfl) (by kernel_rfl) (by kernel_rfl) (fun _ _ _ h => h) (Or.inl ⟨by rfl, ?_⟩) (by assumption) ?_; rotate_left 1; (focus (intro w hSw; (try dsimp only at hSw); go_simp <;> try (first | (with_reducible rfl) | (rw [if_neg (by omega)]) | (rw [if_pos (by omega)])))); try simp only [Act.put, List.setIfInBounds_toArray, List.set_cons_zero, List.set_cons_succ]))
      (refine wpAnyH_ready (rs := [8]) (by kernel_rfl) (by simp) ?_; refine AllReadyH.cons rfl (fun K hK => ?_) AllReadyH.nil; go_simp)
      refine (bcI_any a0_0 la0_0 ca0_0 xa0_0 a0_1 la0_1 ca0_1 xa0_1 a1_0 a1_1 a1_2 false _ ha0_0 ha0_1 ((RA.out.below (by repeat (first | assumption | exact Below.refl _ _ | (refine Below.trans ?_ (D0.mono (by first | omega | (simp; done) | (simp; omega)))) | (refine Below.setCell ?_ (by first | omega | (simp; done) | (simp; omega)) _) | apply below_drewN | apply Below.drew | (refine Below.alloc ?_ (by first | omega | (simp; done) | (simp; omega)) _)))).mono (by first | omega | (simp; done) | (simp; omega))) ((RB.out.below (by repeat (first | assumption | exact Below.refl _ _ | (refine Below.trans ?_ (D0.mono (by first | omega | (simp; done) | (simp; omega)))) | (refine Below.setCell ?_ (by first | omega | (simp; done) | (simp; omega)) _) | apply below_drewN | apply Below.drew | (refine Below.alloc ?_ (by first | omega | (simp; done) | (simp; omega)) _)))).mono (by first | omega | (simp; done) | (simp; omega))) (stepsOk xa2 ∧ levOk a3) HP.out k HK.out).mono ?_
      rintro e2v V2 ⟨rfl, B2⟩
      have q2_0 := (B2.cell (p := ⟨w.heap.size, 0, none⟩) (by first | omega | (simp; done) | (simp; omega))).trans hHeld.1
      have q2_1 := (B2.cell (p := ⟨w.heap.size, 1, none⟩) (by first | omega | (simp; done) | (simp; omega))).trans hHeld.2.1
      have q2_2 := (B2.cell (p := ⟨w.heap.size + 1, 0, none⟩) (by first | omega | (simp; done) | (simp; omega))).trans hHeld.2.2.1
      have q2_3 := (B2.cell (p := ⟨w.heap.size + 1, 1, none⟩) (by first | omega | (simp; done) | (simp; omega))).trans hHeld.2.2.2.1
      have q2_4 := (B2.cell (p := ⟨w.heap.size + 1, 2, none⟩) (by first | omega | (simp; done) | (simp; omega))).trans hHeld.2.2.2.2.1
      have q2_5 := (B2.cell (p := ⟨w.heap.size + 1 + 1, 0, none⟩) (by first | omega | (simp; done) | (simp; omega))).trans hHeld.2.2.2.2.2
      have G2 : w.heap.size + 1 + 1 < V2.heap.size := (by have := B2.size; (try simp at this); omega)
      have D2 : Below w.heap.size w V2 := (by repeat (first | assumption | exact Below.refl _ _ | (refine Below.trans ?_ (B2.mono (by first | omega | (simp; done) | (simp; omega)))) | (refine Below.trans ?_ (D0.mono (by first | omega | (simp; done) | (simp; omega)))) | (refine Below.setCell ?_ (by first | omega | (simp; done) | (simp; omega)) _) | apply below_drewN | apply Below.drew | (refine Below.alloc ?_ (by first | omega | (simp; done) | (simp; omega)) _)))
      clear hHeld
      (refine hK.out _ _ ?_ (fun hHeld => ?_))
      · exact ⟨q2_0, q2_1, q2_2, q2_3, q2_4, q2_5⟩
      clear hK K
      ((refine wpAnyH_take (i := 9) (oi := ⟨some 10, _, _, _, _, _⟩) (v := ?_) rfl (by kernel_rfl) (by kernel_rfl) (by kernel_rfl) (fun _ _ _ h => h) (Or.inl ⟨by rfl, ?_⟩) (by assumption) ?_; rotate_left 1; (focus (intro w hSw; (try dsimp only at hSw); go_simp <;> try (first | (with_reducible rfl) | (rw [if_neg (by omega)]) | (rw [if_pos (by omega)])))); try simp only [Act.put, List.setIfInBounds_toArray, List.set_cons_zero, List.set_cons_succ]))
      refine wpAnyH_done (by kernel_rfl) ?_ _
      go_wp2
      go_ret2
      exact ⟨ret_pair ER.out.1.symm ER.out.2.symm, D2⟩


end Go.Proofs.YtckhfkgldemcnaaDoor
