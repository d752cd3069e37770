/- Breaches: whether the water stays low enough: of the model. -/
import Derived.Test.YtckhfkgldemcnaaDoorBreM
namespace Go.Proofs.YtckhfkgldemcnaaDoor
open Go.RowKit

def dryP (ls vs : List Int) (a b c : Int) (ys : List Int) (y s : Int) : Prop := ∀ k, k < ys.length + 1 → lvAt ls vs (itB ls vs a b c ys (fun _ => s) k).c ≤ y
instance (ls vs : List Int) (a b c : Int) (ys : List Int) (y s : Int) : Decidable (dryP ls vs a b c ys y s) := by unfold dryP; exact inferInstance

set_option maxRecDepth 100000 in
set_option maxHeartbeats 3200000 in
theorem l12Dry_t (q : Nat) (A0 : Option Addr) (n0 k0 : Nat) (ls : List Int) (A1 : Option Addr) (n1 k1 : Nat) (vs : List Int) (a b c : Int) (O : Option Addr) (no ko : Nat) (ys : List Int) (y s : Int) (w : World) (hq : q < w.heap.size) (hat : CurveAt w q A0 n0 k0 A1 n1 k1) (hn0 : n0 ≤ 1048576) (hn1 : n1 ≤ 1048576) (ra : Rd w w.heap.size A0 n0 ls) (rb : Rd w w.heap.size A1 n1 vs) (ro : Rd w w.heap.size O no ys) (hbr : brOk ls vs a b c) (hst : stepsOk ys) (hs : stoOk s) (v : Bool) (hv : v = decide (dryP ls vs a b c ys y s)) :
    Calls Tryd.prog 68 #[.pointer (some ⟨q, 0, none⟩), .agg #[.int .i64 a, .int .i64 b, .int .i64 c], .slice O no ko, .int .i64 y, .int .i64 s] w fun e w' => e = .returned (.bool v) ∧ Below w.heap.size w w' := by
  have RA := Lib.hid ra
  have RB := Lib.hid rb
  have RO := Lib.hid ro
  have hl := ro.1
  have h100 := hst.2
  have HH := Lib.hid (hrs_ok hst hs)
  have HST := Lib.hid hst
  have HSS := Lib.hid hs
  have HBR := Lib.hid hbr
  have YES := Lib.hid (show (∀ k, k < ys.length + 1 → lvAt ls vs (itB ls vs a b c ys (fun _ => s) k).c ≤ y) → v = true from fun h => by rw [hv]; exact decide_eq_true h)
  have NO := Lib.hid (show ∀ k, k < ys.length + 1 → ¬ lvAt ls vs (itB ls vs a b c ys (fun _ => s) k).c ≤ y → v = false from fun k hk h => by rw [hv]; exact decide_eq_false (fun g => h (g k hk)))
  obtain ⟨y0, y1⟩ := hat
  have MB0 := Lib.hid (show MB w (w.alloc (.cells #[.int .i64 a, .int .i64 b, .int .i64 c] 32)) w.heap.size q w.heap.size A0 n0 k0 A1 n1 k1 a b c from ⟨(by repeat (first | assumption | exact Below.refl _ _ | (refine Below.setCell ?_ (by first | omega | (simp; done) | (simp; omega)) _) | apply below_drewN | apply Below.drew | (refine Below.alloc ?_ (by first | omega | (simp; done) | (simp; omega)) _))), (by first | omega | (simp; done) | (simp; omega)), (by first | omega | (simp; done) | (simp; omega)), by omega, by omega, ⟨by first | (simp; done) | go_simp, by first | (simp; done) | go_simp⟩, ⟨by simp, by simp, by simp⟩, by simp, by simp, by simp⟩)
  clear ra rb ro hst hs hbr hv y0 y1
  go_enter Tryd.func68, Tryd.ntmps68
  go_wp2
  go_loopw [11] (fun i wr => ∃ k : Nat, k ≤ no ∧ i = .int .i64 (k : Int) ∧ Hid (MB w wr w.heap.size q w.heap.size A0 n0 k0 A1 n1 k1 (itB ls vs a b c ys (fun _ => s) k).a b (itB ls vs a b c ys (fun _ => s) k).c) ∧ Hid (∀ j, j < k → lvAt ls vs (itB ls vs a b c ys (fun _ => s) j).c ≤ y)) (fun i _ => no - (intOf i).toNat)
  case atStart => exact ⟨0, by omega, rfl, MB0, fun j hj => absurd hj (by omega)⟩
  case round =>
    obtain ⟨k, hk, rfl, hmb, hno⟩ := hrel
    obtain ⟨b1, _, _⟩ := itB_ok HBR.out HH.out k (by omega)
    obtain ⟨av, hav⟩ : ∃ v, v = (itB ls vs a b c ys (fun _ => s) k).a := ⟨_, rfl⟩
    obtain ⟨cv, hcv⟩ : ∃ v, v = (itB ls vs a b c ys (fun _ => s) k).c := ⟨_, rfl⟩
    have HAV := Lib.hid hav
    have HCV := Lib.hid hcv
    rw [← hav, ← hcv] at hmb b1
    have BK := Lib.hid b1
    clear b1 hav hcv
    obtain ⟨dm, lq, lr, nq, lor, ⟨y0, y1⟩, ⟨x0, x1, x2⟩, f0, f1, f2⟩ := hmb.out
    obtain ⟨lv, hlv⟩ : ∃ v, v = lvAt ls vs cv := ⟨_, rfl⟩
    have HLV := Lib.hid hlv
    have hc0 := BK.out.2.1.2.2.1
    have hc1 := BK.out.2.2
    clear hlv
    by_cases he : k < no
    · have i2 : (k : Int) < (no : Int) := by omega
      by_cases hge : lv ≤ y
      · have g1 : ¬ (lv > y) := by omega
        have HLE := Lib.hid (show lvAt ls vs (itB ls vs a b c ys (fun _ => s) k).c ≤ y by rw [← HCV.out, ← HLV.out]; exact hge)
        go_wp2_with (go_at_call 63; refine (insS_t q A0 n0 k0 ls A1 n1 k1 vs av b cv _ (by first | omega | (simp; done) | (simp; omega)) ⟨y0, y1⟩ hn0 hn1 ((RA.out.below dm).mono (by first | omega | (simp; done) | (simp; omega))) ((RB.out.below dm).mono (by first | omega | (simp; done) | (simp; omega))) BK.out.1 hc0 hc1 lv HLV.out).mono ?_; rintro e1 V2 ⟨rfl, B2⟩; have M2 := Lib.hid (hmb.out.below B2 (by omega)); clear B2 y0 y1 x0 x1 x2 f0 f1 f2 lq lr dm)
        obtain ⟨d2, lq, lr, _, _, ⟨y0, y1⟩, ⟨x0, x1, x2⟩, f0, f1, f2⟩ := M2.out
        obtain ⟨ob, oo, rfl, hob, hoc⟩ := (RO.out.below d2).2 (by omega)
        have yo := hoc k he
        obtain ⟨yv, hyv⟩ : ∃ y, y = ys.getD k 0 := ⟨_, rfl⟩
        rw [← hyv] at yo
        have HY := Lib.hid (show levOk yv by rw [hyv]; exact HST.out.1 k (by omega))
        have HYV := Lib.hid hyv
        obtain ⟨a2v, ha2v⟩ : ∃ v, v = stW av (headN ls vs b cv yv) s := ⟨_, rfl⟩
        obtain ⟨c2v, hc2v⟩ : ∃ v, v = cv + inflN ls vs av b cv yv := ⟨_, rfl⟩
        obtain ⟨z2v, hz2v⟩ : ∃ v, v = cloN av (headN ls vs b cv yv) s := ⟨_, rfl⟩
        have E1 := Lib.hid ha2v
        have E2 := Lib.hid hc2v
        have E3 := Lib.hid hz2v
        clear hyv hoc ha2v hc2v hz2v
        refine wp_region_held_drew (S := fun w' => w'.cell? ⟨q, 0, none⟩ = some (.slice A0 n0 k0) ∧ w'.cell? ⟨q, 1, none⟩ = some (.slice A1 n1 k1) ∧ w'.cell? ⟨ob, oo + k, none⟩ = some (.int .i64 yv)) (by kernel_rfl) ⟨y0, y1, yo⟩ (fun hHeld => ?_)
        ((refine wpAnyH_take (i := 0) (oi := ⟨some 24, _, _, _, _, _⟩) (v := ?_) rfl (by kernel_rfl) (by kernel_rfl) (by kernel_rfl) (fun _ _ _ h => h) (Or.inl ⟨by rfl, ?_⟩) (by assumption) ?_; rotate_left 1; (focus (intro w hSw; (try dsimp only at hSw); go_simp <;> try (first | (with_reducible rfl) | (rw [if_neg (by omega)]) | (rw [if_pos (by omega)])))); try simp only [Act.put, List.setIfInBounds_toArray, List.set_cons_zero, List.set_cons_succ]); (refine wpAnyH_take (i := 2) (oi := ⟨some 26, _, _, _, _, _⟩) (v := ?_) rfl (by kernel_rfl) (by kernel_rfl) (by kernel_rfl) (fun _ _ _ h => h) (Or.inl ⟨by rfl, ?_⟩) (by assumption) ?_; rotate_left 1; (focus (intro w hSw; (try dsimp only at hSw); go_simp <;> try (first | (with_reducible rfl) | (rw [if_neg (by omega)]) | (rw [if_pos (by omega)])))); try simp only [Act.put, List.setIfInBounds_toArray, List.set_cons_zero, List.set_cons_succ]); (refine wpAnyH_take (i := 3) (oi := ⟨some 27, _, _, _, _, _⟩) (v := ?_) rfl (by kernel_rfl) (by kernel_rfl) (by kernel_rfl) (fun _ _ _ h => h) (Or.inl ⟨by rfl, ?_⟩) (by assumption) ?_; rotate_left 1; (focus (intro w hSw; (try dsimp only at hSw); go_simp <;> try (first | (with_reducible rfl) | (rw [if_neg (by omega)]) | (rw [if_pos (by omega)])))); try simp only [Act.put, List.setIfInBounds_toArray, List.set_cons_zero, List.set_cons_succ]); (refine wpAnyH_take (i := 4) (oi := ⟨some 28, _, _, _, _, _⟩) (v := ?_) rfl (by kernel_rfl) (by kernel_rfl) (by kernel_rfl) (fun _ _ _ h => h) (Or.inl ⟨by rfl, ?_⟩) (by assumption) ?_; rotate_left 1; (focus (intro w hSw; (try dsimp only at hSw); go_simp <;> try (first | (with_reducible rfl) | (rw [if_neg (by omega)]) | (rw [if_pos (by omega)])))); try simp only [Act.put, List.setIfInBounds_toArray, List.set_cons_zero, List.set_cons_succ]); (refine wpAnyH_take (i := 5) (oi := ⟨some 29, _, _, _, _, _⟩) (v := ?_) rfl (by kernel_rfl) (by kernel_rfl) (by kernel_rfl) (fun _ _ _ h => h) (Or.inl ⟨by rfl, ?_⟩) (by assumption) ?_; rotate_left 1; (focus (intro w hSw; (try dsimp only at hSw); go_simp <;> try (first | (with_reducible rfl) | (rw [if_neg (by omega)]) | (rw [if_pos (by omega)])))); try simp only [Act.put, List.setIfInBounds_toArray, List.set_cons_zero, List.set_cons_succ]); (refine wpAnyH_take (i := 6) (oi := ⟨some 30, _, _, _, _, _⟩) (v := ?_) rfl (by kernel_rfl) (by kernel_rfl) (by kernel_rfl) (fun _ _ _ h => h) (Or.inl ⟨by rfl, ?_⟩) (by assumption) ?_; rotate_left 1; (focus (intro w hSw; (try dsimp only at hSw); go_simp <;> try (first | (with_reducible rfl) | (rw [if_neg (by omega)]) | (rw [if_pos (by omega)])))); try simp only [Act.put, List.setIfInBounds_toArray, List.set_cons_zero, List.set_cons_succ]))
        refine wpAnyH_ready (rs := [1]) (by kernel_rfl) (by simp) ?_
        refine AllReadyH.cons (o := ⟨some 25, _, _, _, _, _⟩) rfl (fun K hK => ?_) AllReadyH.nil
        go_simp
        (refine hK.out _ _ ?_ (fun hHeld => ?_))
        · exact hHeld
        clear hK K
        refine wpAnyH_ready (rs := [7]) (by kernel_rfl) (by simp) ?_
        refine AllReadyH.cons (o := ⟨some 31, _, _, _, _, _⟩) rfl (fun K hK => ?_) AllReadyH.nil
        go_simp
        refine (stepS_t q A0 n0 k0 ls A1 n1 k1 vs av b cv yv s _ (by first | omega | (simp; done) | (simp; omega)) ⟨hHeld.1, hHeld.2.1⟩ hn0 hn1 ((RA.out.below (below_drewN d2 1)).mono (by first | omega | (simp; done) | (simp; omega))) ((RB.out.below (below_drewN d2 1)).mono (by first | omega | (simp; done) | (simp; omega))) BK.out HY.out HSS.out a2v c2v z2v E1.out E2.out E3.out).mono ?_
        rintro e2v V3 ⟨rfl, B3⟩
        have M3 := Lib.hid (M2.out.belowD B3 (by omega))
        have yo3 := (B3.cell (p := ⟨ob, oo + k, none⟩) (by first | omega | (simp; done) | (simp; omega))).trans hHeld.2.2
        obtain ⟨d3, _, lr3, _, _, ⟨u0, u1⟩, _, _⟩ := M3.out
        clear hHeld
        (refine hK.out _ _ ?_ (fun hHeld => ?_))
        · exact ⟨u0, u1, yo3⟩
        clear hK K
        ((refine wpAnyH_take (i := 8) (oi := ⟨some 23, _, _, _, _, _⟩) (v := ?_) rfl (by kernel_rfl) (by kernel_rfl) (by kernel_rfl) (fun _ _ _ h => h) (Or.inl ⟨by rfl, ?_⟩) (by assumption) ?_; rotate_left 1; (focus (intro w hSw; (try dsimp only at hSw); go_simp <;> try (first | (with_reducible rfl) | (rw [if_neg (by omega)]) | (rw [if_pos (by omega)])))); try simp only [Act.put, List.setIfInBounds_toArray, List.set_cons_zero, List.set_cons_succ]); (refine wpAnyH_take (i := 9) (oi := ⟨some 32, _, _, _, _, _⟩) (v := ?_) rfl (by kernel_rfl) (by kernel_rfl) (by kernel_rfl) (fun _ _ _ h => h) (Or.inl ⟨by rfl, ?_⟩) (by assumption) ?_; rotate_left 1; (focus (intro w hSw; (try dsimp only at hSw); go_simp <;> try (first | (with_reducible rfl) | (rw [if_neg (by omega)]) | (rw [if_pos (by omega)])))); try simp only [Act.put, List.setIfInBounds_toArray, List.set_cons_zero, List.set_cons_succ]); (refine wpAnyH_take (i := 10) (oi := ⟨some 33, _, _, _, _, _⟩) (v := ?_) rfl (by kernel_rfl) (by kernel_rfl) (by kernel_rfl) (fun _ _ _ h => h) (Or.inl ⟨by rfl, ?_⟩) (by assumption) ?_; rotate_left 1; (focus (intro w hSw; (try dsimp only at hSw); go_simp <;> try (first | (with_reducible rfl) | (rw [if_neg (by omega)]) | (rw [if_pos (by omega)])))); try simp only [Act.put, List.setIfInBounds_toArray, List.set_cons_zero, List.set_cons_succ]))
        refine wpAnyH_ready (rs := [11]) (by kernel_rfl) (by simp) ?_
        refine AllReadyH.cons (o := ⟨none, _, _, _, _, _⟩) rfl (fun K hK => ?_) AllReadyH.nil
        go_simp
        have M4 := Lib.hid (M3.out.set a2v b c2v)
        obtain ⟨d4, _, _, _, _, ⟨t0, t1⟩, _, _⟩ := M4.out
        have yo4 : ((((V3.setCell ⟨w.heap.size, 0, none⟩ (.int .i64 a2v)).setCell ⟨w.heap.size, 1, none⟩ (.int .i64 b)).setCell ⟨w.heap.size, 2, none⟩ (.int .i64 c2v))).cell? ⟨ob, oo + k, none⟩ = _ := (World.cell?_setCell_other _ _ _ _ (fun e => by injection e; omega)).trans ((World.cell?_setCell_other _ _ _ _ (fun e => by injection e; omega)).trans ((World.cell?_setCell_other _ _ _ _ (fun e => by injection e; omega)).trans yo3))
        (refine hK.out _ _ ?_ (fun hHeld => ?_))
        · exact ⟨t0, t1, yo4⟩
        clear hK K
        refine wpAnyH_done (by kernel_rfl) ?_ _
        go_wp2
        go_roundw
        case rel =>
          have ea : (itB ls vs a b c ys (fun _ => s) (k + 1)).a = a2v := by rw [E1.out, HYV.out, HAV.out, HCV.out]; rfl
          have ec : (itB ls vs a b c ys (fun _ => s) (k + 1)).c = c2v := by rw [E2.out, HYV.out, HAV.out, HCV.out]; rfl
          exact ⟨k + 1, by omega, by go_num, (by rw [ea, ec]; exact M4), fun j hj => by
            by_cases ej : j = k
            · subst ej; exact HLE.out
            · exact hno.out j (by omega)⟩
        case measure => simp [intOf]; omega
      · have g1 : lv > y := by omega
        have ER := Lib.hid (NO.out k (by omega) (by rw [← HCV.out, ← HLV.out]; omega))
        clear hge
        go_wp2_with (go_at_call 63; refine (insS_t q A0 n0 k0 ls A1 n1 k1 vs av b cv _ (by first | omega | (simp; done) | (simp; omega)) ⟨y0, y1⟩ hn0 hn1 ((RA.out.below dm).mono (by first | omega | (simp; done) | (simp; omega))) ((RB.out.below dm).mono (by first | omega | (simp; done) | (simp; omega))) BK.out.1 hc0 hc1 lv HLV.out).mono ?_; rintro e1 V2 ⟨rfl, B2⟩; have D2 := Lib.hid (dm.trans (B2.mono (by omega))))
        go_ret
        exact ⟨ret_bool ER.out.symm, D2.out⟩
    · obtain rfl : k = no := by omega
      have ER := Lib.hid (show decide (lv ≤ y) = v by
        by_cases hge : lv ≤ y
        · rw [decide_eq_true hge]
          exact (YES.out (fun j hj => by
            by_cases ej : j = k
            · subst ej; rw [← HCV.out, ← HLV.out]; exact hge
            · exact hno.out j (by omega))).symm
        · rw [decide_eq_false hge]
          exact (NO.out k (by omega) (by rw [← HCV.out, ← HLV.out]; omega)).symm)
      go_wp2_with (go_at_call 63; refine (insS_t q A0 n0 k0 ls A1 n1 k1 vs av b cv _ (by first | omega | (simp; done) | (simp; omega)) ⟨y0, y1⟩ hn0 hn1 ((RA.out.below dm).mono (by first | omega | (simp; done) | (simp; omega))) ((RB.out.below dm).mono (by first | omega | (simp; done) | (simp; omega))) BK.out.1 hc0 hc1 lv HLV.out).mono ?_; rintro e1 V2 ⟨rfl, B2⟩; have D2 := Lib.hid (dm.trans (B2.mono (by omega))))
      go_ret
      exact ⟨ret_bool ER.out, D2.out⟩


end Go.Proofs.YtckhfkgldemcnaaDoor
