/- The model's CurveOfLand. -/
import Derived.Test.YtcimigaimlojlaaColP
import Derived.Test.YtcimigaimlojlaaLies
namespace Go.Proofs.Ytcimigaimlojlaa
open Go.RowKit

def vfun (xs : List Int) (n : Nat) (fr z : Int) : Int := vol z xs n - vol fr xs n
theorem vfun_all {fr to step : Int} {xs : List Int} (h : rng fr to step) : (lsOf fr to step).map (vfun xs xs.length fr) = vsOf fr to step xs := by
  rw [vsOf, volsOf, lsOf_first h]
  rfl

set_option maxRecDepth 100000 in
set_option maxHeartbeats 12800000 in
theorem specC_CurveOfLand (a0_0 : Int) (a0_1 : Int) (a0_2 : Option Addr) (la0_2 ca0_2 : Nat) (xa0_2 : List Int) (a1 : Int) (a2 : Int) (a3 : Int) (w : World) (ha0_0 : (Lit.int .i64 a0_0).wf = true) (ha0_1 : (Lit.int .i64 a0_1).wf = true) (ha0_2 : la0_2 ≤ 1048576) (ra0_2 : Rd w w.heap.size a0_2 la0_2 xa0_2) (fa0_2 : Wf xa0_2) (ha1 : (Lit.int .i64 a1).wf = true) (ha2 : (Lit.int .i64 a2).wf = true) (ha3 : (Lit.int .i64 a3).wf = true) :
    Calls Try.prog 30 #[.agg #[.int .i64 a0_0, .int .i64 a0_1, .slice a0_2 la0_2 ca0_2], .int .i64 a1, .int .i64 a2, .int .i64 a3] w fun e w' => ∃ B0 B1 dB0 dB1, e = .returned (.tuple #[.agg #[.slice B0 (r0_CurveOfLand a0_0 a0_1 xa0_2 a1 a2 a3).length dB0, .slice B1 (r1_CurveOfLand a0_0 a0_1 xa0_2 a1 a2 a3).length dB1], .int .i64 (r2_CurveOfLand a0_0 a0_1 xa0_2 a1 a2 a3)]) ∧ Below w.heap.size w w' ∧ Wr w' w.heap.size B0 (r0_CurveOfLand a0_0 a0_1 xa0_2 a1 a2 a3).length (r0_CurveOfLand a0_0 a0_1 xa0_2 a1 a2 a3) ∧ Wr w' w.heap.size B1 (r1_CurveOfLand a0_0 a0_1 xa0_2 a1 a2 a3).length (r1_CurveOfLand a0_0 a0_1 xa0_2 a1 a2 a3) ∧ Dis B0 (r0_CurveOfLand a0_0 a0_1 xa0_2 a1 a2 a3).length B1 (r1_CurveOfLand a0_0 a0_1 xa0_2 a1 a2 a3).length := by
  have hl0 := ra0_2.1
  have RA := Lib.hid ra0_2
  clear ra0_2
  by_cases hl : LandOk a0_0 a0_1 xa0_2
  · have HL := Lib.hid hl
    by_cases hr : rng a1 a2 a3
    · have HR := Lib.hid hr
      have hrr := hr
      obtain ⟨⟨g1, g2⟩, ⟨g3, g4⟩, g5, g6, g7⟩ := hrr
      obtain ⟨R0, h0⟩ : ∃ R, R = r0_CurveOfLand a0_0 a0_1 xa0_2 a1 a2 a3 := ⟨_, rfl⟩
      obtain ⟨R1, h1⟩ : ∃ R, R = r1_CurveOfLand a0_0 a0_1 xa0_2 a1 a2 a3 := ⟨_, rfl⟩
      obtain ⟨R2, h2⟩ : ∃ R, R = r2_CurveOfLand a0_0 a0_1 xa0_2 a1 a2 a3 := ⟨_, rfl⟩
      have EF := Lib.hid (show 12 ≤ (lv4 a1 a2 a3).length → R0 = [] ∧ R1 = [] ∧ R2 = 5 from fun hf => by rw [h0, h1, h2]; exact col_full ⟨hl, hr⟩ hf)
      have EO := Lib.hid (show ¬ 12 ≤ (lv4 a1 a2 a3).length → CurveOk (lsOf a1 a2 a3) (vsOf a1 a2 a3 xa0_2) → R0 = lsOf a1 a2 a3 ∧ R1 = vsOf a1 a2 a3 xa0_2 ∧ R2 = 0 from fun hf hc => by rw [h0, h1, h2]; exact col_ok ⟨⟨hl, hr⟩, hf, hc⟩)
      have ES := Lib.hid (show ¬ 12 ≤ (lv4 a1 a2 a3).length → ¬ CurveOk (lsOf a1 a2 a3) (vsOf a1 a2 a3 xa0_2) → R0 = [] ∧ R1 = [] ∧ R2 = 6 from fun hf hc => by rw [h0, h1, h2]; exact col_state ⟨hl, hr⟩ hf hc)
      rw [← h0, ← h1, ← h2]
      have hlen := hl.len
      have HB1 := Lib.hid (vol_bd a1 xa0_2 la0_2 ⟨g1, g2⟩ (fun j hj => hl.2.2.2 j (by omega)))
      have HVB := Lib.hid (show ∀ z, lvl z → 0 ≤ vol z xa0_2 la0_2 ∧ vol z xa0_2 la0_2 ≤ 4000 * la0_2 from fun z hz => vol_bd z xa0_2 la0_2 hz (fun j hj => hl.2.2.2 j (by omega)))
      have HVA := Lib.hid (show (lsOf a1 a2 a3).map (vfun xa0_2 la0_2 a1) = vsOf a1 a2 a3 xa0_2 by rw [← hl0]; exact vfun_all hr)
      have l144 : la0_2 ≤ 144 := by omega
      clear h0 h1 h2 hl hr hl0 hlen
      go_enter Try.func30, Try.ntmps30
      go_wp2_with (first | (go_at_call 61; refine (l03Ok_t _ a0_0 a0_1 _ la0_2 ca0_2 xa0_2 _ ha0_2 ⟨by go_simp, by go_simp, by go_simp⟩ ((RA.out.below (by repeat (first | assumption | exact Below.refl _ _ | (refine Below.setCell ?_ (by first | omega | (simp; done) | (simp; omega)) _) | apply below_drewN | apply Below.drew | (refine Below.alloc ?_ (by first | omega | (simp; done) | (simp; omega)) _)))).mono (by first | omega | (simp; done) | (simp; omega))) HL.out).mono ?_; rintro e w1 ⟨rfl, m1, hw1⟩; have b1 : Below ((w.alloc (.cells #[.int .i64 a0_0, .int .i64 a0_1, .slice a0_2 la0_2 ca0_2] 59)).alloc (.cells #[.slice none 0 0, .slice none 0 0] 56)).heap.size ((w.alloc (.cells #[.int .i64 a0_0, .int .i64 a0_1, .slice a0_2 la0_2 ca0_2] 59)).alloc (.cells #[.slice none 0 0, .slice none 0 0] 56)) w1 := (by rw [← hw1]; exact below_drewN (Below.refl _ _) m1); clear hw1; have s1 : w.heap.size + 1 < w1.heap.size := (by have := b1.size; simp at this; omega); obtain ⟨k1, f1⟩ := bcell b1; have z0 : w1.cell? ⟨w.heap.size, 0, none⟩ = some (.int .i64 a0_0) := (by rw [k1 _ _ (by first | omega | (simp; done) | (simp; omega))]; first | (simp; done) | go_simp); have zf0 : w1.frozen? ⟨w.heap.size, 0, none⟩ = false := (by rw [f1 _ _ (by first | omega | (simp; done) | (simp; omega))]; first | (simp; done) | go_simp); have z1 : w1.cell? ⟨w.heap.size, 1, none⟩ = some (.int .i64 a0_1) := (by rw [k1 _ _ (by first | omega | (simp; done) | (simp; omega))]; first | (simp; done) | go_simp); have zf1 : w1.frozen? ⟨w.heap.size, 1, none⟩ = false := (by rw [f1 _ _ (by first | omega | (simp; done) | (simp; omega))]; first | (simp; done) | go_simp); have z2 : w1.cell? ⟨w.heap.size, 2, none⟩ = some (.slice a0_2 la0_2 ca0_2) := (by rw [k1 _ _ (by first | omega | (simp; done) | (simp; omega))]; first | (simp; done) | go_simp); have zf2 : w1.frozen? ⟨w.heap.size, 2, none⟩ = false := (by rw [f1 _ _ (by first | omega | (simp; done) | (simp; omega))]; first | (simp; done) | go_simp); have x0 : w1.cell? ⟨w.heap.size + 1, 0, none⟩ = some (.slice none 0 0) := (by rw [k1 _ _ (by first | omega | (simp; done) | (simp; omega))]; first | (simp; done) | go_simp); have xf0 : w1.frozen? ⟨w.heap.size + 1, 0, none⟩ = false := (by rw [f1 _ _ (by first | omega | (simp; done) | (simp; omega))]; first | (simp; done) | go_simp); have x1 : w1.cell? ⟨w.heap.size + 1, 1, none⟩ = some (.slice none 0 0) := (by rw [k1 _ _ (by first | omega | (simp; done) | (simp; omega))]; first | (simp; done) | go_simp); have xf1 : w1.frozen? ⟨w.heap.size + 1, 1, none⟩ = false := (by rw [f1 _ _ (by first | omega | (simp; done) | (simp; omega))]; first | (simp; done) | go_simp); clear k1 f1; have d1 : Below w.heap.size w w1 := (by repeat (first | assumption | exact Below.refl _ _ | (refine Below.trans ?_ (b1.mono (by first | omega | (simp; done) | (simp; omega)))) | (refine Below.setCell ?_ (by first | omega | (simp; done) | (simp; omega)) _) | apply below_drewN | apply Below.drew | (refine Below.alloc ?_ (by first | omega | (simp; done) | (simp; omega)) _)))) | (go_at_call 47; first | (refine (l02Level_t _ _ (by omega)).mono ?_; rintro e w' ⟨rfl, rfl⟩) | (refine (l02Level_f _ _ (by omega)).mono ?_; rintro e w' ⟨rfl, rfl⟩)) | (go_at_call 46; first | (refine (in_t _ _ _ _ (by omega)).mono ?_; rintro e w' ⟨rfl, rfl⟩) | (refine (in_f _ _ _ _ (by omega)).mono ?_; rintro e w' ⟨rfl, rfl⟩)))
      have hO3 : w1.heap.size + 1 + 1 = w1.heap.size + 2 := rfl
      have HAT := Lib.hid (show LandAt w1 w.heap.size a0_0 a0_1 a0_2 la0_2 ca0_2 from ⟨z0, z1, z2⟩)
      have T2 := Lib.hid (two_new w1)
      have B2 := Lib.hid (show Below w1.heap.size w1 (((w1.alloc (.cells #[] 2)).alloc (.cells #[] 2)).alloc (.cells #[.slice (some ⟨w1.heap.size, 0, none⟩) 0 0, .slice (some ⟨w1.heap.size + 1, 0, none⟩) 0 0] 56)) from two_below w1 _ _ _)
      clear z0 zf0 z1 zf1 z2 zf2 b1
      generalize (((w1.alloc (.cells #[] 2)).alloc (.cells #[] 2)).alloc (.cells #[.slice (some ⟨w1.heap.size, 0, none⟩) 0 0, .slice (some ⟨w1.heap.size + 1, 0, none⟩) 0 0] 56)) = w2 at T2 B2 ⊢
      generalize hO : w1.heap.size + 1 + 1 = O at T2 ⊢
      have sO : O < w2.heap.size := T2.out.lt
      refine (l03Volume_t w.heap.size a0_0 a0_1 a0_2 la0_2 ca0_2 xa0_2 a1 w2 (HAT.out.below B2.out (by omega)) ((RA.out.below (d1.trans (B2.out.mono (by omega)))).mono (by omega)) HL.out ⟨g1, g2⟩).mono ?_
      rintro e8 w8 ⟨rfl, rfl⟩
      go_wp2
      go_loopw [12] (fun at_ wr => ∃ (ds : List Int) (f : Nat) (y : Int) (g0 c0 gg c1 : Nat), at_ = .int .i64 y ∧ Hid (ds ++ lvs a2 a3 f y = lv4 a1 a2 a3) ∧ a1 ≤ y ∧ y ≤ 6000 ∧ a2 - y ≤ (f : Int) ∧ ds.length ≤ 12 ∧ Hid (Below w1.heap.size w1 wr) ∧ Hid (Two wr w1.heap.size O g0 c0 ds.length ds gg c1 ds.length (ds.map (vfun xa0_2 la0_2 a1)))) (fun at_ _ => (a2 - intOf at_).toNat)
      case atStart => exact ⟨[], 4001, a1, w1.heap.size, 0, w1.heap.size + 1, 0, rfl, rfl, by omega, by omega, by omega, by simp, B2.out, T2.out⟩
      case round =>
        obtain ⟨ds, f, y, g0, c0, gg, c1, rfl, HD, y1, y2, y3, y4, Bw, T⟩ := hrel
        have sw : O < wr.heap.size := T.out.lt
        have q0 := T.out.b0
        by_cases hy : y < a2
        · obtain ⟨f, rfl⟩ : ∃ g, f = g + 1 := ⟨f - 1, by omega⟩
          by_cases hfull : 12 ≤ ds.length
          · obtain ⟨rfl, rfl, rfl⟩ := EF.out (by rw [← HD.out, List.length_append]; omega)
            have hf12 : (12 : Int) ≤ (ds.length : Int) := by omega
            have p0 : wr.cell? ⟨w.heap.size + 1, 0, none⟩ = _ := (Bw.out.cell (p := ⟨w.heap.size + 1, 0, none⟩) (show w.heap.size + 1 < _ from (by first | omega | (simp; done) | (simp; omega)))).trans x0; have pf0 : wr.frozen? ⟨w.heap.size + 1, 0, none⟩ = _ := (Bw.out.frozen (p := ⟨w.heap.size + 1, 0, none⟩) (show w.heap.size + 1 < _ from (by first | omega | (simp; done) | (simp; omega)))).trans xf0; have p1 : wr.cell? ⟨w.heap.size + 1, 1, none⟩ = _ := (Bw.out.cell (p := ⟨w.heap.size + 1, 1, none⟩) (show w.heap.size + 1 < _ from (by first | omega | (simp; done) | (simp; omega)))).trans x1; have pf1 : wr.frozen? ⟨w.heap.size + 1, 1, none⟩ = _ := (Bw.out.frozen (p := ⟨w.heap.size + 1, 1, none⟩) (show w.heap.size + 1 < _ from (by first | omega | (simp; done) | (simp; omega)))).trans xf1
            have dw := d1.trans (Bw.out.mono (by omega))
            go_wp2
            exact bodyPost_ret (v := .tuple #[.agg #[.slice none 0 0, .slice none 0 0], .int .i64 5]) (by simp [results, Try.results30, go_sem, p0, p1, pf0, pf1]) rfl ⟨none, none, ⟨0, 0, rfl⟩, (by repeat (first | assumption | exact Below.refl _ _ | (refine Below.trans ?_ (dw.mono (by first | omega | (simp; done) | (simp; omega)))) | (refine Below.setCell ?_ (by first | omega | (simp; done) | (simp; omega)) _) | apply below_drewN | apply Below.drew | (refine Below.alloc ?_ (by first | omega | (simp; done) | (simp; omega)) _))), wr0 _ _, wr0 _ _, dis0⟩
          · have hf12 : (ds.length : Int) < 12 := by omega
            have hlv : lvl y := ⟨by omega, by omega⟩
            have hwB := Bw.out.size
            have hBO : w1.heap.size ≤ O := by omega
            have hdl : ds.length ≤ 1048576 := by omega
            have hbd := HVB.out y hlv
            have hbd1 := HB1.out
            have hwr := IntWalk.i64_in (vol y xa0_2 la0_2 - vol a1 xa0_2 la0_2) (by omega)
            go_wp2_with (at_builtin; refine wpList_plain rfl (fun K hK => ?_); refine wpLies (.tmp 53) (.tmp 55) rfl wr w1.heap.size ds.length (.slice (some ⟨g0, 0, none⟩) ds.length c0) ds y rfl T.out.o0 rfl hdl hwB ?_; intro g' cap' w3 own gb hat hlt; obtain ⟨r0, r1, rf0, rf1⟩ := T.out.cells gb T.out.n0; have T3 := Lib.hid (T.out.app0 own gb hat); have GB := Lib.hid gb; clear own gb hat hlt; refine hK _ _ ?_; clear hK K)
            have B3 := Lib.hid (below_app (row := g0) (a := ⟨O, 0, none⟩) (u := .slice (some ⟨g', 0, none⟩) (ds.length + 1) cap') Bw.out hwB GB.out T.out.lt0.1 hBO)
            clear q0 r0 r1 rf0 rf1
            generalize w3.setCell ⟨O, 0, none⟩ (.slice (some ⟨g', 0, none⟩) (ds.length + 1) cap') = w4 at T3 B3 ⊢
            have T5 := Lib.hid T3.out.drew
            have B5 : Hid (Below w1.heap.size w1 w4.drew) := B3.out.drew
            have s5 : O < w4.drew.heap.size := T5.out.lt
            refine wp_region_held_drew (S := fun _ => True) (by kernel_rfl) trivial (fun hHeld => ?_)
            generalize w4.drew = w5 at T5 B5 s5 hHeld ⊢
            clear hHeld
            have hHeld : (fun _ : World => True) w5 := trivial
            have o1_ := T5.out.b1
            ((refine wpAnyH_take (i := 0) (oi := ⟨some 58, _, _, _, _, _⟩) (v := ?_) rfl (by kernel_rfl) (by kernel_rfl) (by kernel_rfl) (fun _ _ _ h => h) (Or.inl ⟨by rfl, ?_⟩) (by assumption) ?_; rotate_left 1; (focus (intro w hSw; (try dsimp only at hSw); go_simp <;> try (first | (with_reducible rfl) | (rw [if_neg (by omega)])))); try simp only [Act.put, List.setIfInBounds_toArray, List.set_cons_zero, List.set_cons_succ]); (refine wpAnyH_take (i := 2) (oi := ⟨some 60, _, _, _, _, _⟩) (v := ?_) rfl (by kernel_rfl) (by kernel_rfl) (by kernel_rfl) (fun _ _ _ h => h) (Or.inl ⟨by rfl, ?_⟩) (by assumption) ?_; rotate_left 1; (focus (intro w hSw; (try dsimp only at hSw); go_simp <;> try (first | (with_reducible rfl) | (rw [if_neg (by omega)])))); try simp only [Act.put, List.setIfInBounds_toArray, List.set_cons_zero, List.set_cons_succ]); (refine wpAnyH_take (i := 4) (oi := ⟨some 62, _, _, _, _, _⟩) (v := ?_) rfl (by kernel_rfl) (by kernel_rfl) (by kernel_rfl) (fun _ _ _ h => h) (Or.inl ⟨by rfl, ?_⟩) (by assumption) ?_; rotate_left 1; (focus (intro w hSw; (try dsimp only at hSw); go_simp <;> try (first | (with_reducible rfl) | (rw [if_neg (by omega)])))); try simp only [Act.put, List.setIfInBounds_toArray, List.set_cons_zero, List.set_cons_succ]))
            refine wpAnyH_ready (rs := [1, 3]) (by kernel_rfl) (by simp) ?_
            refine AllReadyH.cons (o := ⟨some 59, _, _, _, _, _⟩) rfl (fun K hK => ?_) (AllReadyH.cons (o := ⟨some 61, _, _, _, _, _⟩) rfl (fun K hK => ?_) AllReadyH.nil)
            · go_simp
              refine hK.out _ _ trivial (fun hHeld => ?_)
              clear hK K
              try simp only [Act.put, List.setIfInBounds_toArray, List.set_cons_zero, List.set_cons_succ]
              (refine wpAnyH_ready (rs := [3]) (by kernel_rfl) (by simp) ?_; refine AllReadyH.cons rfl (fun K hK => ?_) AllReadyH.nil; go_simp)
              refine (l03Volume_t w.heap.size a0_0 a0_1 a0_2 la0_2 ca0_2 xa0_2 y _ (HAT.out.below B5.out (by omega)) ((RA.out.below (d1.trans (B5.out.mono (by omega)))).mono (by omega)) HL.out hlv).mono ?_
              rintro e8 w8 ⟨rfl, rfl⟩
              refine hK.out _ _ trivial (fun hHeld => ?_)
              clear hK K
              try simp only [Act.put, List.setIfInBounds_toArray, List.set_cons_zero, List.set_cons_succ]
              ((refine wpAnyH_take (i := 5) (oi := ⟨some 63, _, _, _, _, _⟩) (v := ?_) rfl (by kernel_rfl) (by kernel_rfl) (by kernel_rfl) (fun _ _ _ h => h) (Or.inl ⟨by rfl, ?_⟩) (by assumption) ?_; rotate_left 1; (focus (intro w hSw; (try dsimp only at hSw); go_simp <;> try (first | (with_reducible rfl) | (rw [if_neg (by omega)])))); try simp only [Act.put, List.setIfInBounds_toArray, List.set_cons_zero, List.set_cons_succ]))
              refine wpAnyH_ready (rs := [6]) (by kernel_rfl) (by simp) ?_
              refine AllReadyH.cons (o := ⟨some 64, _, _, _, _, _⟩) rfl (fun K hK => ?_) AllReadyH.nil
              go_simp
              refine hK.out _ _ trivial (fun hHeld => ?_)
              clear hK K
              try simp only [Act.put, List.setIfInBounds_toArray, List.set_cons_zero, List.set_cons_succ]
              refine wpAnyH_ready (rs := [7]) (by kernel_rfl) (by simp) ?_
              refine AllReadyH.cons (o := ⟨some 65, _, _, _, _, _⟩) rfl (fun K hK => ?_) AllReadyH.nil
              rw [if_pos (by rfl)]
              refine wpLies (.tmp 59) (.tmp 64) rfl w5 w1.heap.size (ds.length) _ (ds.map (vfun xa0_2 la0_2 a1)) (vol y xa0_2 la0_2 - vol a1 xa0_2 la0_2) rfl T5.out.o1 rfl (by omega) (by have := T5.out.lt; omega) ?_
              intro gq cq w6 own6 gb6 hat6 hlt6
              obtain ⟨r0, r1, rf0, rf1⟩ := T5.out.cells gb6 T5.out.n1
              have T7 := Lib.hid (T5.out.app1 own6 gb6 hat6)
              have B7 : Hid (Below w1.heap.size w1 (w6.setCell ⟨O, 1, none⟩ (.slice (some ⟨gq, 0, none⟩) (ds.length + 1) cq))) := below_app B5.out (by have := T5.out.lt; omega) gb6 T5.out.lt1.1 (show w1.heap.size ≤ O by omega)
              have s7 : O < (w6.setCell ⟨O, 1, none⟩ (.slice (some ⟨gq, 0, none⟩) (ds.length + 1) cq)).heap.size := T7.out.lt
              clear own6 gb6 hat6 hlt6
              refine hK.out _ _ trivial (fun hHeld => ?_)
              clear hK K
              try simp only [Act.put, List.setIfInBounds_toArray, List.set_cons_zero, List.set_cons_succ]
              ((refine wpAnyH_take (i := 8) (oi := ⟨some 66, _, _, _, _, _⟩) (v := ?_) rfl (by kernel_rfl) (by kernel_rfl) (by kernel_rfl) (fun _ _ _ h => h) (Or.inl ⟨by rfl, ?_⟩) (by assumption) ?_; rotate_left 1; (focus (intro w hSw; (try dsimp only at hSw); go_simp <;> try (first | (with_reducible rfl) | (rw [if_neg (by omega)])))); try simp only [Act.put, List.setIfInBounds_toArray, List.set_cons_zero, List.set_cons_succ]))
              refine wpAnyH_ready (rs := [9]) (by kernel_rfl) (by simp) ?_
              refine AllReadyH.cons (o := ⟨none, _, _, _, _, _⟩) rfl (fun K hK => ?_) AllReadyH.nil
              go_simp
              generalize (w6.setCell ⟨O, 1, none⟩ (.slice (some ⟨gq, 0, none⟩) (ds.length + 1) cq)) = w7 at T7 B7 s7 ⊢
              clear r0 r1 rf0 rf1
              refine hK.out _ _ trivial (fun hHeld => ?_)
              clear hK K
              refine wpAnyH_done (by kernel_rfl) ?_ _
              go_wp2
              go_roundw
              case rel => exact ⟨ds ++ [y], f, y + a3, g', cap', gq, cq, by go_num, by have := HD.out; rw [lvs_step hy] at this; show (ds ++ [y]) ++ _ = _; rw [List.append_assoc]; exact this, by omega, by omega, by omega, by rw [List.length_append, List.length_singleton]; omega, B7.out, by rw [List.length_append, List.length_singleton, List.map_append]; exact T7.out⟩
              case measure => simp [intOf]; omega
            · go_simp
              refine (l03Volume_t w.heap.size a0_0 a0_1 a0_2 la0_2 ca0_2 xa0_2 y _ (HAT.out.below B5.out (by omega)) ((RA.out.below (d1.trans (B5.out.mono (by omega)))).mono (by omega)) HL.out hlv).mono ?_
              rintro e8 w8 ⟨rfl, rfl⟩
              refine hK.out _ _ trivial (fun hHeld => ?_)
              clear hK K
              try simp only [Act.put, List.setIfInBounds_toArray, List.set_cons_zero, List.set_cons_succ]
              ((refine wpAnyH_take (i := 5) (oi := ⟨some 63, _, _, _, _, _⟩) (v := ?_) rfl (by kernel_rfl) (by kernel_rfl) (by kernel_rfl) (fun _ _ _ h => h) (Or.inl ⟨by rfl, ?_⟩) (by assumption) ?_; rotate_left 1; (focus (intro w hSw; (try dsimp only at hSw); go_simp <;> try (first | (with_reducible rfl) | (rw [if_neg (by omega)])))); try simp only [Act.put, List.setIfInBounds_toArray, List.set_cons_zero, List.set_cons_succ]))
              have o2_ : (w5.alloc (.cells #[.int .i64 (vol y xa0_2 la0_2 - vol a1 xa0_2 la0_2)] 2)).cell? ⟨O, 1, none⟩ = _ := (World.cell?_of_block (w := w5) (a := ⟨O, 1, none⟩) (Below.heap_alloc _ _ _ s5)).trans T5.out.b1
              refine wpAnyH_ready (rs := [1, 6]) (by kernel_rfl) (by simp) ?_
              refine AllReadyH.cons (o := ⟨some 59, _, _, _, _, _⟩) rfl (fun K hK => ?_) (AllReadyH.cons (o := ⟨some 64, _, _, _, _, _⟩) rfl (fun K hK => ?_) AllReadyH.nil)
              · go_simp
                refine hK.out _ _ trivial (fun hHeld => ?_)
                clear hK K
                try simp only [Act.put, List.setIfInBounds_toArray, List.set_cons_zero, List.set_cons_succ]
                refine wpAnyH_ready (rs := [6]) (by kernel_rfl) (by simp) ?_
                refine AllReadyH.cons (o := ⟨some 64, _, _, _, _, _⟩) rfl (fun K hK => ?_) AllReadyH.nil
                go_simp
                refine hK.out _ _ trivial (fun hHeld => ?_)
                clear hK K
                try simp only [Act.put, List.setIfInBounds_toArray, List.set_cons_zero, List.set_cons_succ]
                refine wpAnyH_ready (rs := [7]) (by kernel_rfl) (by simp) ?_
                refine AllReadyH.cons (o := ⟨some 65, _, _, _, _, _⟩) rfl (fun K hK => ?_) AllReadyH.nil
                rw [if_pos (by rfl)]
                refine wpLies (.tmp 59) (.tmp 64) rfl w5 w1.heap.size (ds.length) _ (ds.map (vfun xa0_2 la0_2 a1)) (vol y xa0_2 la0_2 - vol a1 xa0_2 la0_2) rfl T5.out.o1 rfl (by omega) (by have := T5.out.lt; omega) ?_
                intro gq cq w6 own6 gb6 hat6 hlt6
                obtain ⟨r0, r1, rf0, rf1⟩ := T5.out.cells gb6 T5.out.n1
                have T7 := Lib.hid (T5.out.app1 own6 gb6 hat6)
                have B7 : Hid (Below w1.heap.size w1 (w6.setCell ⟨O, 1, none⟩ (.slice (some ⟨gq, 0, none⟩) (ds.length + 1) cq))) := below_app B5.out (by have := T5.out.lt; omega) gb6 T5.out.lt1.1 (show w1.heap.size ≤ O by omega)
                have s7 : O < (w6.setCell ⟨O, 1, none⟩ (.slice (some ⟨gq, 0, none⟩) (ds.length + 1) cq)).heap.size := T7.out.lt
                clear own6 gb6 hat6 hlt6
                refine hK.out _ _ trivial (fun hHeld => ?_)
                clear hK K
                try simp only [Act.put, List.setIfInBounds_toArray, List.set_cons_zero, List.set_cons_succ]
                ((refine wpAnyH_take (i := 8) (oi := ⟨some 66, _, _, _, _, _⟩) (v := ?_) rfl (by kernel_rfl) (by kernel_rfl) (by kernel_rfl) (fun _ _ _ h => h) (Or.inl ⟨by rfl, ?_⟩) (by assumption) ?_; rotate_left 1; (focus (intro w hSw; (try dsimp only at hSw); go_simp <;> try (first | (with_reducible rfl) | (rw [if_neg (by omega)])))); try simp only [Act.put, List.setIfInBounds_toArray, List.set_cons_zero, List.set_cons_succ]))
                refine wpAnyH_ready (rs := [9]) (by kernel_rfl) (by simp) ?_
                refine AllReadyH.cons (o := ⟨none, _, _, _, _, _⟩) rfl (fun K hK => ?_) AllReadyH.nil
                go_simp
                generalize (w6.setCell ⟨O, 1, none⟩ (.slice (some ⟨gq, 0, none⟩) (ds.length + 1) cq)) = w7 at T7 B7 s7 ⊢
                clear r0 r1 rf0 rf1
                refine hK.out _ _ trivial (fun hHeld => ?_)
                clear hK K
                refine wpAnyH_done (by kernel_rfl) ?_ _
                go_wp2
                go_roundw
                case rel => exact ⟨ds ++ [y], f, y + a3, g', cap', gq, cq, by go_num, by have := HD.out; rw [lvs_step hy] at this; show (ds ++ [y]) ++ _ = _; rw [List.append_assoc]; exact this, by omega, by omega, by omega, by rw [List.length_append, List.length_singleton]; omega, B7.out, by rw [List.length_append, List.length_singleton, List.map_append]; exact T7.out⟩
                case measure => simp [intOf]; omega
              · go_simp
                refine hK.out _ _ trivial (fun hHeld => ?_)
                clear hK K
                try simp only [Act.put, List.setIfInBounds_toArray, List.set_cons_zero, List.set_cons_succ]
                (refine wpAnyH_ready (rs := [1]) (by kernel_rfl) (by simp) ?_; refine AllReadyH.cons rfl (fun K hK => ?_) AllReadyH.nil; go_simp)
                refine hK.out _ _ trivial (fun hHeld => ?_)
                clear hK K
                try simp only [Act.put, List.setIfInBounds_toArray, List.set_cons_zero, List.set_cons_succ]
                refine wpAnyH_ready (rs := [7]) (by kernel_rfl) (by simp) ?_
                refine AllReadyH.cons (o := ⟨some 65, _, _, _, _, _⟩) rfl (fun K hK => ?_) AllReadyH.nil
                rw [if_pos (by rfl)]
                refine wpLies (.tmp 59) (.tmp 64) rfl w5 w1.heap.size (ds.length) _ (ds.map (vfun xa0_2 la0_2 a1)) (vol y xa0_2 la0_2 - vol a1 xa0_2 la0_2) rfl T5.out.o1 rfl (by omega) (by have := T5.out.lt; omega) ?_
                intro gq cq w6 own6 gb6 hat6 hlt6
                obtain ⟨r0, r1, rf0, rf1⟩ := T5.out.cells gb6 T5.out.n1
                have T7 := Lib.hid (T5.out.app1 own6 gb6 hat6)
                have B7 : Hid (Below w1.heap.size w1 (w6.setCell ⟨O, 1, none⟩ (.slice (some ⟨gq, 0, none⟩) (ds.length + 1) cq))) := below_app B5.out (by have := T5.out.lt; omega) gb6 T5.out.lt1.1 (show w1.heap.size ≤ O by omega)
                have s7 : O < (w6.setCell ⟨O, 1, none⟩ (.slice (some ⟨gq, 0, none⟩) (ds.length + 1) cq)).heap.size := T7.out.lt
                clear own6 gb6 hat6 hlt6
                refine hK.out _ _ trivial (fun hHeld => ?_)
                clear hK K
                try simp only [Act.put, List.setIfInBounds_toArray, List.set_cons_zero, List.set_cons_succ]
                ((refine wpAnyH_take (i := 8) (oi := ⟨some 66, _, _, _, _, _⟩) (v := ?_) rfl (by kernel_rfl) (by kernel_rfl) (by kernel_rfl) (fun _ _ _ h => h) (Or.inl ⟨by rfl, ?_⟩) (by assumption) ?_; rotate_left 1; (focus (intro w hSw; (try dsimp only at hSw); go_simp <;> try (first | (with_reducible rfl) | (rw [if_neg (by omega)])))); try simp only [Act.put, List.setIfInBounds_toArray, List.set_cons_zero, List.set_cons_succ]))
                refine wpAnyH_ready (rs := [9]) (by kernel_rfl) (by simp) ?_
                refine AllReadyH.cons (o := ⟨none, _, _, _, _, _⟩) rfl (fun K hK => ?_) AllReadyH.nil
                go_simp
                generalize (w6.setCell ⟨O, 1, none⟩ (.slice (some ⟨gq, 0, none⟩) (ds.length + 1) cq)) = w7 at T7 B7 s7 ⊢
                clear r0 r1 rf0 rf1
                refine hK.out _ _ trivial (fun hHeld => ?_)
                clear hK K
                refine wpAnyH_done (by kernel_rfl) ?_ _
                go_wp2
                go_roundw
                case rel => exact ⟨ds ++ [y], f, y + a3, g', cap', gq, cq, by go_num, by have := HD.out; rw [lvs_step hy] at this; show (ds ++ [y]) ++ _ = _; rw [List.append_assoc]; exact this, by omega, by omega, by omega, by rw [List.length_append, List.length_singleton]; omega, B7.out, by rw [List.length_append, List.length_singleton, List.map_append]; exact T7.out⟩
                case measure => simp [intOf]; omega

        · have HDS := Lib.hid (show ds = lv4 a1 a2 a3 by have := HD.out; rw [lvs_end hy, List.append_nil] at this; exact this)
          by_cases hfull : 12 ≤ ds.length
          · obtain ⟨rfl, rfl, rfl⟩ := EF.out (by rw [← HDS.out]; exact hfull)
            have hf12 : (12 : Int) ≤ (ds.length : Int) := by omega
            have p0 : wr.cell? ⟨w.heap.size + 1, 0, none⟩ = _ := (Bw.out.cell (p := ⟨w.heap.size + 1, 0, none⟩) (show w.heap.size + 1 < _ from (by first | omega | (simp; done) | (simp; omega)))).trans x0; have pf0 : wr.frozen? ⟨w.heap.size + 1, 0, none⟩ = _ := (Bw.out.frozen (p := ⟨w.heap.size + 1, 0, none⟩) (show w.heap.size + 1 < _ from (by first | omega | (simp; done) | (simp; omega)))).trans xf0; have p1 : wr.cell? ⟨w.heap.size + 1, 1, none⟩ = _ := (Bw.out.cell (p := ⟨w.heap.size + 1, 1, none⟩) (show w.heap.size + 1 < _ from (by first | omega | (simp; done) | (simp; omega)))).trans x1; have pf1 : wr.frozen? ⟨w.heap.size + 1, 1, none⟩ = _ := (Bw.out.frozen (p := ⟨w.heap.size + 1, 1, none⟩) (show w.heap.size + 1 < _ from (by first | omega | (simp; done) | (simp; omega)))).trans xf1
            have dw := d1.trans (Bw.out.mono (by omega))
            go_wp2
            exact bodyPost_ret (v := .tuple #[.agg #[.slice none 0 0, .slice none 0 0], .int .i64 5]) (by simp [results, Try.results30, go_sem, p0, p1, pf0, pf1]) rfl ⟨none, none, ⟨0, 0, rfl⟩, (by repeat (first | assumption | exact Below.refl _ _ | (refine Below.trans ?_ (dw.mono (by first | omega | (simp; done) | (simp; omega)))) | (refine Below.setCell ?_ (by first | omega | (simp; done) | (simp; omega)) _) | apply below_drewN | apply Below.drew | (refine Below.alloc ?_ (by first | omega | (simp; done) | (simp; omega)) _))), wr0 _ _, wr0 _ _, dis0⟩
          · have hf12 : (ds.length : Int) < 12 := by omega
            have hbd := HVB.out a2 ⟨g3, g4⟩
            have hbd1 := HB1.out
            have hwr := IntWalk.i64_in (vol a2 xa0_2 la0_2 - vol a1 xa0_2 la0_2) (by omega)
            have hwB := Bw.out.size
            have hBO : w1.heap.size ≤ O := by omega
            have hdl : ds.length ≤ 1048576 := by omega
            have hnn : ds.length + 1 ≤ 1048576 := by omega
            have HL2 := Lib.hid (show ds ++ [a2] = lsOf a1 a2 a3 by rw [HDS.out]; rfl)
            have HV2 := Lib.hid (show ds.map (vfun xa0_2 la0_2 a1) ++ [vol a2 xa0_2 la0_2 - vol a1 xa0_2 la0_2] = vsOf a1 a2 a3 xa0_2 by rw [← HVA.out, ← HL2.out, List.map_append]; rfl)
            have HLN := Lib.hid (show (lsOf a1 a2 a3).length = ds.length + 1 by rw [lsOf_len, HDS.out])
            have HVL := Lib.hid (show (vsOf a1 a2 a3 xa0_2).length = ds.length + 1 by rw [vsOf_len, HDS.out])
            go_wp2_with (at_builtin; refine wpList_plain rfl (fun K hK => ?_); refine wpLies (.tmp 73) (.tmp 75) rfl wr w1.heap.size ds.length (.slice (some ⟨g0, 0, none⟩) ds.length c0) ds a2 rfl T.out.o0 rfl hdl hwB ?_; intro g' cap' w3 own gb hat hlt; obtain ⟨r0, r1, rf0, rf1⟩ := T.out.cells gb T.out.n0; have T3 := Lib.hid (T.out.app0 own gb hat); have GB := Lib.hid gb; clear own gb hat hlt; refine hK _ _ ?_; clear hK K)
            have B3 := Lib.hid (below_app (row := g0) (a := ⟨O, 0, none⟩) (u := .slice (some ⟨g', 0, none⟩) (ds.length + 1) cap') Bw.out hwB GB.out T.out.lt0.1 hBO)
            clear q0 r0 r1 rf0 rf1
            generalize w3.setCell ⟨O, 0, none⟩ (.slice (some ⟨g', 0, none⟩) (ds.length + 1) cap') = w4 at T3 B3 ⊢
            have T5 := Lib.hid T3.out.drew
            have B5 : Hid (Below w1.heap.size w1 w4.drew) := B3.out.drew
            have s5 : O < w4.drew.heap.size := T5.out.lt
            refine wp_region_held_drew (S := fun _ => True) (by kernel_rfl) trivial (fun hHeld => ?_)
            generalize w4.drew = w5 at T5 B5 s5 hHeld ⊢
            clear hHeld
            have hHeld : (fun _ : World => True) w5 := trivial
            have o1_ := T5.out.b1
            ((refine wpAnyH_take (i := 0) (oi := ⟨some 78, _, _, _, _, _⟩) (v := ?_) rfl (by kernel_rfl) (by kernel_rfl) (by kernel_rfl) (fun _ _ _ h => h) (Or.inl ⟨by rfl, ?_⟩) (by assumption) ?_; rotate_left 1; (focus (intro w hSw; (try dsimp only at hSw); go_simp <;> try (first | (with_reducible rfl) | (rw [if_neg (by omega)])))); try simp only [Act.put, List.setIfInBounds_toArray, List.set_cons_zero, List.set_cons_succ]); (refine wpAnyH_take (i := 2) (oi := ⟨some 80, _, _, _, _, _⟩) (v := ?_) rfl (by kernel_rfl) (by kernel_rfl) (by kernel_rfl) (fun _ _ _ h => h) (Or.inl ⟨by rfl, ?_⟩) (by assumption) ?_; rotate_left 1; (focus (intro w hSw; (try dsimp only at hSw); go_simp <;> try (first | (with_reducible rfl) | (rw [if_neg (by omega)])))); try simp only [Act.put, List.setIfInBounds_toArray, List.set_cons_zero, List.set_cons_succ]); (refine wpAnyH_take (i := 4) (oi := ⟨some 82, _, _, _, _, _⟩) (v := ?_) rfl (by kernel_rfl) (by kernel_rfl) (by kernel_rfl) (fun _ _ _ h => h) (Or.inl ⟨by rfl, ?_⟩) (by assumption) ?_; rotate_left 1; (focus (intro w hSw; (try dsimp only at hSw); go_simp <;> try (first | (with_reducible rfl) | (rw [if_neg (by omega)])))); try simp only [Act.put, List.setIfInBounds_toArray, List.set_cons_zero, List.set_cons_succ]))
            refine wpAnyH_ready (rs := [1, 3]) (by kernel_rfl) (by simp) ?_
            refine AllReadyH.cons (o := ⟨some 79, _, _, _, _, _⟩) rfl (fun K hK => ?_) (AllReadyH.cons (o := ⟨some 81, _, _, _, _, _⟩) rfl (fun K hK => ?_) AllReadyH.nil)
            · go_simp
              refine hK.out _ _ trivial (fun hHeld => ?_)
              clear hK K
              try simp only [Act.put, List.setIfInBounds_toArray, List.set_cons_zero, List.set_cons_succ]
              (refine wpAnyH_ready (rs := [3]) (by kernel_rfl) (by simp) ?_; refine AllReadyH.cons rfl (fun K hK => ?_) AllReadyH.nil; go_simp)
              refine (l03Volume_t w.heap.size a0_0 a0_1 a0_2 la0_2 ca0_2 xa0_2 a2 _ (HAT.out.below B5.out (by omega)) ((RA.out.below (d1.trans (B5.out.mono (by omega)))).mono (by omega)) HL.out ⟨g3, g4⟩).mono ?_
              rintro e8 w8 ⟨rfl, rfl⟩
              refine hK.out _ _ trivial (fun hHeld => ?_)
              clear hK K
              try simp only [Act.put, List.setIfInBounds_toArray, List.set_cons_zero, List.set_cons_succ]
              ((refine wpAnyH_take (i := 5) (oi := ⟨some 83, _, _, _, _, _⟩) (v := ?_) rfl (by kernel_rfl) (by kernel_rfl) (by kernel_rfl) (fun _ _ _ h => h) (Or.inl ⟨by rfl, ?_⟩) (by assumption) ?_; rotate_left 1; (focus (intro w hSw; (try dsimp only at hSw); go_simp <;> try (first | (with_reducible rfl) | (rw [if_neg (by omega)])))); try simp only [Act.put, List.setIfInBounds_toArray, List.set_cons_zero, List.set_cons_succ]))
              refine wpAnyH_ready (rs := [6]) (by kernel_rfl) (by simp) ?_
              refine AllReadyH.cons (o := ⟨some 84, _, _, _, _, _⟩) rfl (fun K hK => ?_) AllReadyH.nil
              go_simp
              refine hK.out _ _ trivial (fun hHeld => ?_)
              clear hK K
              try simp only [Act.put, List.setIfInBounds_toArray, List.set_cons_zero, List.set_cons_succ]
              refine wpAnyH_ready (rs := [7]) (by kernel_rfl) (by simp) ?_
              refine AllReadyH.cons (o := ⟨some 85, _, _, _, _, _⟩) rfl (fun K hK => ?_) AllReadyH.nil
              rw [if_pos (by rfl)]
              refine wpLies (.tmp 79) (.tmp 84) rfl w5 w1.heap.size (ds.length) _ (ds.map (vfun xa0_2 la0_2 a1)) (vol a2 xa0_2 la0_2 - vol a1 xa0_2 la0_2) rfl T5.out.o1 rfl (by omega) (by have := T5.out.lt; omega) ?_
              intro gq cq w6 own6 gb6 hat6 hlt6
              obtain ⟨r0, r1, rf0, rf1⟩ := T5.out.cells gb6 T5.out.n1
              have T7 := Lib.hid (T5.out.app1 own6 gb6 hat6)
              have B7 : Hid (Below w1.heap.size w1 (w6.setCell ⟨O, 1, none⟩ (.slice (some ⟨gq, 0, none⟩) (ds.length + 1) cq))) := below_app B5.out (by have := T5.out.lt; omega) gb6 T5.out.lt1.1 (show w1.heap.size ≤ O by omega)
              have s7 : O < (w6.setCell ⟨O, 1, none⟩ (.slice (some ⟨gq, 0, none⟩) (ds.length + 1) cq)).heap.size := T7.out.lt
              clear own6 gb6 hat6 hlt6
              refine hK.out _ _ trivial (fun hHeld => ?_)
              clear hK K
              try simp only [Act.put, List.setIfInBounds_toArray, List.set_cons_zero, List.set_cons_succ]
              ((refine wpAnyH_take (i := 8) (oi := ⟨some 86, _, _, _, _, _⟩) (v := ?_) rfl (by kernel_rfl) (by kernel_rfl) (by kernel_rfl) (fun _ _ _ h => h) (Or.inl ⟨by rfl, ?_⟩) (by assumption) ?_; rotate_left 1; (focus (intro w hSw; (try dsimp only at hSw); go_simp <;> try (first | (with_reducible rfl) | (rw [if_neg (by omega)])))); try simp only [Act.put, List.setIfInBounds_toArray, List.set_cons_zero, List.set_cons_succ]))
              refine wpAnyH_ready (rs := [9]) (by kernel_rfl) (by simp) ?_
              refine AllReadyH.cons (o := ⟨none, _, _, _, _, _⟩) rfl (fun K hK => ?_) AllReadyH.nil
              go_simp
              generalize (w6.setCell ⟨O, 1, none⟩ (.slice (some ⟨gq, 0, none⟩) (ds.length + 1) cq)) = w7 at T7 B7 s7 ⊢
              clear r0 r1 rf0 rf1
              refine hK.out _ _ trivial (fun hHeld => ?_)
              clear hK K
              refine wpAnyH_done (by kernel_rfl) ?_ _
              have T8 := T7.out
              rw [HL2.out, HV2.out] at T8
              have W0 := Lib.hid T8.wr0
              have W1 := Lib.hid T8.wr1
              have T9 := Lib.hid (show CurveAt w7 O (some ⟨g', 0, none⟩) (ds.length + 1) cap' (some ⟨gq, 0, none⟩) (ds.length + 1) cq from ⟨T8.b0, T8.b1⟩)
              have HDis := Lib.hid (show Dis (some ⟨g', 0, none⟩) (ds.length + 1) (some ⟨gq, 0, none⟩) (ds.length + 1) from fun _ _ e => T8.ne (Option.some.inj e))
              have P0 := Lib.hid ((B7.out.cell (p := ⟨w.heap.size + 1, 0, none⟩) s1).trans x0)
              have P1 := Lib.hid ((B7.out.cell (p := ⟨w.heap.size + 1, 1, none⟩) s1).trans x1)
              have PF0 := Lib.hid ((B7.out.frozen (p := ⟨w.heap.size + 1, 0, none⟩) s1).trans xf0)
              have PF1 := Lib.hid ((B7.out.frozen (p := ⟨w.heap.size + 1, 1, none⟩) s1).trans xf1)
              have s17 : w.heap.size + 1 < w7.heap.size := by omega
              have s08 : w.heap.size ≤ w7.heap.size := by omega
              have dw := d1.trans (B7.out.mono (show w.heap.size ≤ w1.heap.size by omega))
              clear T8 x0 x1 xf0 xf1
              by_cases hc : CurveOk (lsOf a1 a2 a3) (vsOf a1 a2 a3 xa0_2)
              · have HE := Lib.hid (EO.out (by rw [← HDS.out]; exact hfull) hc)
                have HC := Lib.hid (show true = true ↔ CurveOk (lsOf a1 a2 a3) (vsOf a1 a2 a3 xa0_2) from ⟨fun _ => hc, fun _ => rfl⟩)
                clear hc
                go_wp2_with (go_at_call 63; refine (l05Ok_any O (some ⟨g', 0, none⟩) (ds.length + 1) cap' (lsOf a1 a2 a3) (some ⟨gq, 0, none⟩) (ds.length + 1) cq (vsOf a1 a2 a3 xa0_2) w7 s7 hnn hnn (T9.out) (W0.out.rd) (W1.out.rd) true HC.out).mono ?_; rintro e9 w9 ⟨rfl, b9⟩; have q0 := (b9.cell (p := ⟨O, 0, none⟩) s7).trans T9.out.1; have q1 := (b9.cell (p := ⟨O, 1, none⟩) s7).trans T9.out.2; have p0 := (b9.cell (p := ⟨w.heap.size + 1, 0, none⟩) s17).trans P0.out; have p1 := (b9.cell (p := ⟨w.heap.size + 1, 1, none⟩) s17).trans P1.out; have pf0 := (b9.frozen (p := ⟨w.heap.size + 1, 0, none⟩) s17).trans PF0.out; have pf1 := (b9.frozen (p := ⟨w.heap.size + 1, 1, none⟩) s17).trans PF1.out; have U0 := Lib.hid (W0.out.below b9); have U1 := Lib.hid (W1.out.below b9); have dd := dw.trans (b9.mono s08))
                obtain ⟨rfl, rfl, rfl⟩ := HE.out
                have t0 : ((w9.setCell ⟨w.heap.size + 1, 0, none⟩ (.slice (some ⟨g', 0, none⟩) (ds.length + 1) cap')).setCell ⟨w.heap.size + 1, 1, none⟩ (.slice (some ⟨gq, 0, none⟩) (ds.length + 1) cq)).cell? ⟨w.heap.size + 1, 0, none⟩ = some (.slice (some ⟨g', 0, none⟩) (ds.length + 1) cap') := (World.cell?_setCell_other _ _ _ _ (by simp)).trans (World.cell?_setCell_same _ _ _ p0)
                have t1 : ((w9.setCell ⟨w.heap.size + 1, 0, none⟩ (.slice (some ⟨g', 0, none⟩) (ds.length + 1) cap')).setCell ⟨w.heap.size + 1, 1, none⟩ (.slice (some ⟨gq, 0, none⟩) (ds.length + 1) cq)).cell? ⟨w.heap.size + 1, 1, none⟩ = some (.slice (some ⟨gq, 0, none⟩) (ds.length + 1) cq) := World.cell?_setCell_same _ _ _ ((World.cell?_setCell_other _ _ _ _ (by simp)).trans p1)
                have hbl : Below w.heap.size w ((w9.setCell ⟨w.heap.size + 1, 0, none⟩ (.slice (some ⟨g', 0, none⟩) (ds.length + 1) cap')).setCell ⟨w.heap.size + 1, 1, none⟩ (.slice (some ⟨gq, 0, none⟩) (ds.length + 1) cq)) := (dd.setCell (by simp) _).setCell (by simp) _
                have ab : Abv (w.heap.size + 2) w9 ((w9.setCell ⟨w.heap.size + 1, 0, none⟩ (.slice (some ⟨g', 0, none⟩) (ds.length + 1) cap')).setCell ⟨w.heap.size + 1, 1, none⟩ (.slice (some ⟨gq, 0, none⟩) (ds.length + 1) cq)) := ((Abv.refl _ _).setCell (by simp) _).setCell (by simp) _
                exact bodyPost_ret (v := .tuple #[.agg #[.slice (some ⟨g', 0, none⟩) (ds.length + 1) cap', .slice (some ⟨gq, 0, none⟩) (ds.length + 1) cq], .int .i64 0]) (by simp [results, Try.results30, go_sem, t0, t1]) rfl ⟨some ⟨g', 0, none⟩, some ⟨gq, 0, none⟩, cap', cq, by rw [HLN.out, HVL.out], hbl, by rw [HLN.out]; exact ((U0.out.lower (lo' := w.heap.size + 2) (by omega)).abv ab).lower (by omega), by rw [HVL.out]; exact ((U1.out.lower (lo' := w.heap.size + 2) (by omega)).abv ab).lower (by omega), by rw [HLN.out, HVL.out]; exact HDis.out⟩
              · have HE := Lib.hid (ES.out (by rw [← HDS.out]; exact hfull) hc)
                have HC := Lib.hid (show false = true ↔ CurveOk (lsOf a1 a2 a3) (vsOf a1 a2 a3 xa0_2) from ⟨fun h => (by cases h), fun h => absurd h hc⟩)
                clear hc
                go_wp2_with (go_at_call 63; refine (l05Ok_any O (some ⟨g', 0, none⟩) (ds.length + 1) cap' (lsOf a1 a2 a3) (some ⟨gq, 0, none⟩) (ds.length + 1) cq (vsOf a1 a2 a3 xa0_2) w7 s7 hnn hnn (T9.out) (W0.out.rd) (W1.out.rd) false HC.out).mono ?_; rintro e9 w9 ⟨rfl, b9⟩; have q0 := (b9.cell (p := ⟨O, 0, none⟩) s7).trans T9.out.1; have q1 := (b9.cell (p := ⟨O, 1, none⟩) s7).trans T9.out.2; have p0 := (b9.cell (p := ⟨w.heap.size + 1, 0, none⟩) s17).trans P0.out; have p1 := (b9.cell (p := ⟨w.heap.size + 1, 1, none⟩) s17).trans P1.out; have pf0 := (b9.frozen (p := ⟨w.heap.size + 1, 0, none⟩) s17).trans PF0.out; have pf1 := (b9.frozen (p := ⟨w.heap.size + 1, 1, none⟩) s17).trans PF1.out; have U0 := Lib.hid (W0.out.below b9); have U1 := Lib.hid (W1.out.below b9); have dd := dw.trans (b9.mono s08))
                obtain ⟨rfl, rfl, rfl⟩ := HE.out
                exact bodyPost_ret (v := .tuple #[.agg #[.slice none 0 0, .slice none 0 0], .int .i64 6]) (by simp [results, Try.results30, go_sem, p0, p1, pf0, pf1]) rfl ⟨none, none, 0, 0, rfl, (by repeat (first | assumption | exact Below.refl _ _ | (refine Below.trans ?_ (dd.mono (by first | omega | (simp; done) | (simp; omega)))) | (refine Below.setCell ?_ (by first | omega | (simp; done) | (simp; omega)) _) | apply below_drewN | apply Below.drew | (refine Below.alloc ?_ (by first | omega | (simp; done) | (simp; omega)) _))), wr0 _ _, wr0 _ _, dis0⟩
            · go_simp
              refine (l03Volume_t w.heap.size a0_0 a0_1 a0_2 la0_2 ca0_2 xa0_2 a2 _ (HAT.out.below B5.out (by omega)) ((RA.out.below (d1.trans (B5.out.mono (by omega)))).mono (by omega)) HL.out ⟨g3, g4⟩).mono ?_
              rintro e8 w8 ⟨rfl, rfl⟩
              refine hK.out _ _ trivial (fun hHeld => ?_)
              clear hK K
              try simp only [Act.put, List.setIfInBounds_toArray, List.set_cons_zero, List.set_cons_succ]
              ((refine wpAnyH_take (i := 5) (oi := ⟨some 83, _, _, _, _, _⟩) (v := ?_) rfl (by kernel_rfl) (by kernel_rfl) (by kernel_rfl) (fun _ _ _ h => h) (Or.inl ⟨by rfl, ?_⟩) (by assumption) ?_; rotate_left 1; (focus (intro w hSw; (try dsimp only at hSw); go_simp <;> try (first | (with_reducible rfl) | (rw [if_neg (by omega)])))); try simp only [Act.put, List.setIfInBounds_toArray, List.set_cons_zero, List.set_cons_succ]))
              have o2_ : (w5.alloc (.cells #[.int .i64 (vol a2 xa0_2 la0_2 - vol a1 xa0_2 la0_2)] 2)).cell? ⟨O, 1, none⟩ = _ := (World.cell?_of_block (w := w5) (a := ⟨O, 1, none⟩) (Below.heap_alloc _ _ _ s5)).trans T5.out.b1
              refine wpAnyH_ready (rs := [1, 6]) (by kernel_rfl) (by simp) ?_
              refine AllReadyH.cons (o := ⟨some 79, _, _, _, _, _⟩) rfl (fun K hK => ?_) (AllReadyH.cons (o := ⟨some 84, _, _, _, _, _⟩) rfl (fun K hK => ?_) AllReadyH.nil)
              · go_simp
                refine hK.out _ _ trivial (fun hHeld => ?_)
                clear hK K
                try simp only [Act.put, List.setIfInBounds_toArray, List.set_cons_zero, List.set_cons_succ]
                refine wpAnyH_ready (rs := [6]) (by kernel_rfl) (by simp) ?_
                refine AllReadyH.cons (o := ⟨some 84, _, _, _, _, _⟩) rfl (fun K hK => ?_) AllReadyH.nil
                go_simp
                refine hK.out _ _ trivial (fun hHeld => ?_)
                clear hK K
                try simp only [Act.put, List.setIfInBounds_toArray, List.set_cons_zero, List.set_cons_succ]
                refine wpAnyH_ready (rs := [7]) (by kernel_rfl) (by simp) ?_
                refine AllReadyH.cons (o := ⟨some 85, _, _, _, _, _⟩) rfl (fun K hK => ?_) AllReadyH.nil
                rw [if_pos (by rfl)]
                refine wpLies (.tmp 79) (.tmp 84) rfl w5 w1.heap.size (ds.length) _ (ds.map (vfun xa0_2 la0_2 a1)) (vol a2 xa0_2 la0_2 - vol a1 xa0_2 la0_2) rfl T5.out.o1 rfl (by omega) (by have := T5.out.lt; omega) ?_
                intro gq cq w6 own6 gb6 hat6 hlt6
                obtain ⟨r0, r1, rf0, rf1⟩ := T5.out.cells gb6 T5.out.n1
                have T7 := Lib.hid (T5.out.app1 own6 gb6 hat6)
                have B7 : Hid (Below w1.heap.size w1 (w6.setCell ⟨O, 1, none⟩ (.slice (some ⟨gq, 0, none⟩) (ds.length + 1) cq))) := below_app B5.out (by have := T5.out.lt; omega) gb6 T5.out.lt1.1 (show w1.heap.size ≤ O by omega)
                have s7 : O < (w6.setCell ⟨O, 1, none⟩ (.slice (some ⟨gq, 0, none⟩) (ds.length + 1) cq)).heap.size := T7.out.lt
                clear own6 gb6 hat6 hlt6
                refine hK.out _ _ trivial (fun hHeld => ?_)
                clear hK K
                try simp only [Act.put, List.setIfInBounds_toArray, List.set_cons_zero, List.set_cons_succ]
                ((refine wpAnyH_take (i := 8) (oi := ⟨some 86, _, _, _, _, _⟩) (v := ?_) rfl (by kernel_rfl) (by kernel_rfl) (by kernel_rfl) (fun _ _ _ h => h) (Or.inl ⟨by rfl, ?_⟩) (by assumption) ?_; rotate_left 1; (focus (intro w hSw; (try dsimp only at hSw); go_simp <;> try (first | (with_reducible rfl) | (rw [if_neg (by omega)])))); try simp only [Act.put, List.setIfInBounds_toArray, List.set_cons_zero, List.set_cons_succ]))
                refine wpAnyH_ready (rs := [9]) (by kernel_rfl) (by simp) ?_
                refine AllReadyH.cons (o := ⟨none, _, _, _, _, _⟩) rfl (fun K hK => ?_) AllReadyH.nil
                go_simp
                generalize (w6.setCell ⟨O, 1, none⟩ (.slice (some ⟨gq, 0, none⟩) (ds.length + 1) cq)) = w7 at T7 B7 s7 ⊢
                clear r0 r1 rf0 rf1
                refine hK.out _ _ trivial (fun hHeld => ?_)
                clear hK K
                refine wpAnyH_done (by kernel_rfl) ?_ _
                have T8 := T7.out
                rw [HL2.out, HV2.out] at T8
                have W0 := Lib.hid T8.wr0
                have W1 := Lib.hid T8.wr1
                have T9 := Lib.hid (show CurveAt w7 O (some ⟨g', 0, none⟩) (ds.length + 1) cap' (some ⟨gq, 0, none⟩) (ds.length + 1) cq from ⟨T8.b0, T8.b1⟩)
                have HDis := Lib.hid (show Dis (some ⟨g', 0, none⟩) (ds.length + 1) (some ⟨gq, 0, none⟩) (ds.length + 1) from fun _ _ e => T8.ne (Option.some.inj e))
                have P0 := Lib.hid ((B7.out.cell (p := ⟨w.heap.size + 1, 0, none⟩) s1).trans x0)
                have P1 := Lib.hid ((B7.out.cell (p := ⟨w.heap.size + 1, 1, none⟩) s1).trans x1)
                have PF0 := Lib.hid ((B7.out.frozen (p := ⟨w.heap.size + 1, 0, none⟩) s1).trans xf0)
                have PF1 := Lib.hid ((B7.out.frozen (p := ⟨w.heap.size + 1, 1, none⟩) s1).trans xf1)
                have s17 : w.heap.size + 1 < w7.heap.size := by omega
                have s08 : w.heap.size ≤ w7.heap.size := by omega
                have dw := d1.trans (B7.out.mono (show w.heap.size ≤ w1.heap.size by omega))
                clear T8 x0 x1 xf0 xf1
                by_cases hc : CurveOk (lsOf a1 a2 a3) (vsOf a1 a2 a3 xa0_2)
                · have HE := Lib.hid (EO.out (by rw [← HDS.out]; exact hfull) hc)
                  have HC := Lib.hid (show true = true ↔ CurveOk (lsOf a1 a2 a3) (vsOf a1 a2 a3 xa0_2) from ⟨fun _ => hc, fun _ => rfl⟩)
                  clear hc
                  go_wp2_with (go_at_call 63; refine (l05Ok_any O (some ⟨g', 0, none⟩) (ds.length + 1) cap' (lsOf a1 a2 a3) (some ⟨gq, 0, none⟩) (ds.length + 1) cq (vsOf a1 a2 a3 xa0_2) w7 s7 hnn hnn (T9.out) (W0.out.rd) (W1.out.rd) true HC.out).mono ?_; rintro e9 w9 ⟨rfl, b9⟩; have q0 := (b9.cell (p := ⟨O, 0, none⟩) s7).trans T9.out.1; have q1 := (b9.cell (p := ⟨O, 1, none⟩) s7).trans T9.out.2; have p0 := (b9.cell (p := ⟨w.heap.size + 1, 0, none⟩) s17).trans P0.out; have p1 := (b9.cell (p := ⟨w.heap.size + 1, 1, none⟩) s17).trans P1.out; have pf0 := (b9.frozen (p := ⟨w.heap.size + 1, 0, none⟩) s17).trans PF0.out; have pf1 := (b9.frozen (p := ⟨w.heap.size + 1, 1, none⟩) s17).trans PF1.out; have U0 := Lib.hid (W0.out.below b9); have U1 := Lib.hid (W1.out.below b9); have dd := dw.trans (b9.mono s08))
                  obtain ⟨rfl, rfl, rfl⟩ := HE.out
                  have t0 : ((w9.setCell ⟨w.heap.size + 1, 0, none⟩ (.slice (some ⟨g', 0, none⟩) (ds.length + 1) cap')).setCell ⟨w.heap.size + 1, 1, none⟩ (.slice (some ⟨gq, 0, none⟩) (ds.length + 1) cq)).cell? ⟨w.heap.size + 1, 0, none⟩ = some (.slice (some ⟨g', 0, none⟩) (ds.length + 1) cap') := (World.cell?_setCell_other _ _ _ _ (by simp)).trans (World.cell?_setCell_same _ _ _ p0)
                  have t1 : ((w9.setCell ⟨w.heap.size + 1, 0, none⟩ (.slice (some ⟨g', 0, none⟩) (ds.length + 1) cap')).setCell ⟨w.heap.size + 1, 1, none⟩ (.slice (some ⟨gq, 0, none⟩) (ds.length + 1) cq)).cell? ⟨w.heap.size + 1, 1, none⟩ = some (.slice (some ⟨gq, 0, none⟩) (ds.length + 1) cq) := World.cell?_setCell_same _ _ _ ((World.cell?_setCell_other _ _ _ _ (by simp)).trans p1)
                  have hbl : Below w.heap.size w ((w9.setCell ⟨w.heap.size + 1, 0, none⟩ (.slice (some ⟨g', 0, none⟩) (ds.length + 1) cap')).setCell ⟨w.heap.size + 1, 1, none⟩ (.slice (some ⟨gq, 0, none⟩) (ds.length + 1) cq)) := (dd.setCell (by simp) _).setCell (by simp) _
                  have ab : Abv (w.heap.size + 2) w9 ((w9.setCell ⟨w.heap.size + 1, 0, none⟩ (.slice (some ⟨g', 0, none⟩) (ds.length + 1) cap')).setCell ⟨w.heap.size + 1, 1, none⟩ (.slice (some ⟨gq, 0, none⟩) (ds.length + 1) cq)) := ((Abv.refl _ _).setCell (by simp) _).setCell (by simp) _
                  exact bodyPost_ret (v := .tuple #[.agg #[.slice (some ⟨g', 0, none⟩) (ds.length + 1) cap', .slice (some ⟨gq, 0, none⟩) (ds.length + 1) cq], .int .i64 0]) (by simp [results, Try.results30, go_sem, t0, t1]) rfl ⟨some ⟨g', 0, none⟩, some ⟨gq, 0, none⟩, cap', cq, by rw [HLN.out, HVL.out], hbl, by rw [HLN.out]; exact ((U0.out.lower (lo' := w.heap.size + 2) (by omega)).abv ab).lower (by omega), by rw [HVL.out]; exact ((U1.out.lower (lo' := w.heap.size + 2) (by omega)).abv ab).lower (by omega), by rw [HLN.out, HVL.out]; exact HDis.out⟩
                · have HE := Lib.hid (ES.out (by rw [← HDS.out]; exact hfull) hc)
                  have HC := Lib.hid (show false = true ↔ CurveOk (lsOf a1 a2 a3) (vsOf a1 a2 a3 xa0_2) from ⟨fun h => (by cases h), fun h => absurd h hc⟩)
                  clear hc
                  go_wp2_with (go_at_call 63; refine (l05Ok_any O (some ⟨g', 0, none⟩) (ds.length + 1) cap' (lsOf a1 a2 a3) (some ⟨gq, 0, none⟩) (ds.length + 1) cq (vsOf a1 a2 a3 xa0_2) w7 s7 hnn hnn (T9.out) (W0.out.rd) (W1.out.rd) false HC.out).mono ?_; rintro e9 w9 ⟨rfl, b9⟩; have q0 := (b9.cell (p := ⟨O, 0, none⟩) s7).trans T9.out.1; have q1 := (b9.cell (p := ⟨O, 1, none⟩) s7).trans T9.out.2; have p0 := (b9.cell (p := ⟨w.heap.size + 1, 0, none⟩) s17).trans P0.out; have p1 := (b9.cell (p := ⟨w.heap.size + 1, 1, none⟩) s17).trans P1.out; have pf0 := (b9.frozen (p := ⟨w.heap.size + 1, 0, none⟩) s17).trans PF0.out; have pf1 := (b9.frozen (p := ⟨w.heap.size + 1, 1, none⟩) s17).trans PF1.out; have U0 := Lib.hid (W0.out.below b9); have U1 := Lib.hid (W1.out.below b9); have dd := dw.trans (b9.mono s08))
                  obtain ⟨rfl, rfl, rfl⟩ := HE.out
                  exact bodyPost_ret (v := .tuple #[.agg #[.slice none 0 0, .slice none 0 0], .int .i64 6]) (by simp [results, Try.results30, go_sem, p0, p1, pf0, pf1]) rfl ⟨none, none, 0, 0, rfl, (by repeat (first | assumption | exact Below.refl _ _ | (refine Below.trans ?_ (dd.mono (by first | omega | (simp; done) | (simp; omega)))) | (refine Below.setCell ?_ (by first | omega | (simp; done) | (simp; omega)) _) | apply below_drewN | apply Below.drew | (refine Below.alloc ?_ (by first | omega | (simp; done) | (simp; omega)) _))), wr0 _ _, wr0 _ _, dis0⟩
              · go_simp
                refine hK.out _ _ trivial (fun hHeld => ?_)
                clear hK K
                try simp only [Act.put, List.setIfInBounds_toArray, List.set_cons_zero, List.set_cons_succ]
                (refine wpAnyH_ready (rs := [1]) (by kernel_rfl) (by simp) ?_; refine AllReadyH.cons rfl (fun K hK => ?_) AllReadyH.nil; go_simp)
                refine hK.out _ _ trivial (fun hHeld => ?_)
                clear hK K
                try simp only [Act.put, List.setIfInBounds_toArray, List.set_cons_zero, List.set_cons_succ]
                refine wpAnyH_ready (rs := [7]) (by kernel_rfl) (by simp) ?_
                refine AllReadyH.cons (o := ⟨some 85, _, _, _, _, _⟩) rfl (fun K hK => ?_) AllReadyH.nil
                rw [if_pos (by rfl)]
                refine wpLies (.tmp 79) (.tmp 84) rfl w5 w1.heap.size (ds.length) _ (ds.map (vfun xa0_2 la0_2 a1)) (vol a2 xa0_2 la0_2 - vol a1 xa0_2 la0_2) rfl T5.out.o1 rfl (by omega) (by have := T5.out.lt; omega) ?_
                intro gq cq w6 own6 gb6 hat6 hlt6
                obtain ⟨r0, r1, rf0, rf1⟩ := T5.out.cells gb6 T5.out.n1
                have T7 := Lib.hid (T5.out.app1 own6 gb6 hat6)
                have B7 : Hid (Below w1.heap.size w1 (w6.setCell ⟨O, 1, none⟩ (.slice (some ⟨gq, 0, none⟩) (ds.length + 1) cq))) := below_app B5.out (by have := T5.out.lt; omega) gb6 T5.out.lt1.1 (show w1.heap.size ≤ O by omega)
                have s7 : O < (w6.setCell ⟨O, 1, none⟩ (.slice (some ⟨gq, 0, none⟩) (ds.length + 1) cq)).heap.size := T7.out.lt
                clear own6 gb6 hat6 hlt6
                refine hK.out _ _ trivial (fun hHeld => ?_)
                clear hK K
                try simp only [Act.put, List.setIfInBounds_toArray, List.set_cons_zero, List.set_cons_succ]
                ((refine wpAnyH_take (i := 8) (oi := ⟨some 86, _, _, _, _, _⟩) (v := ?_) rfl (by kernel_rfl) (by kernel_rfl) (by kernel_rfl) (fun _ _ _ h => h) (Or.inl ⟨by rfl, ?_⟩) (by assumption) ?_; rotate_left 1; (focus (intro w hSw; (try dsimp only at hSw); go_simp <;> try (first | (with_reducible rfl) | (rw [if_neg (by omega)])))); try simp only [Act.put, List.setIfInBounds_toArray, List.set_cons_zero, List.set_cons_succ]))
                refine wpAnyH_ready (rs := [9]) (by kernel_rfl) (by simp) ?_
                refine AllReadyH.cons (o := ⟨none, _, _, _, _, _⟩) rfl (fun K hK => ?_) AllReadyH.nil
                go_simp
                generalize (w6.setCell ⟨O, 1, none⟩ (.slice (some ⟨gq, 0, none⟩) (ds.length + 1) cq)) = w7 at T7 B7 s7 ⊢
                clear r0 r1 rf0 rf1
                refine hK.out _ _ trivial (fun hHeld => ?_)
                clear hK K
                refine wpAnyH_done (by kernel_rfl) ?_ _
                have T8 := T7.out
                rw [HL2.out, HV2.out] at T8
                have W0 := Lib.hid T8.wr0
                have W1 := Lib.hid T8.wr1
                have T9 := Lib.hid (show CurveAt w7 O (some ⟨g', 0, none⟩) (ds.length + 1) cap' (some ⟨gq, 0, none⟩) (ds.length + 1) cq from ⟨T8.b0, T8.b1⟩)
                have HDis := Lib.hid (show Dis (some ⟨g', 0, none⟩) (ds.length + 1) (some ⟨gq, 0, none⟩) (ds.length + 1) from fun _ _ e => T8.ne (Option.some.inj e))
                have P0 := Lib.hid ((B7.out.cell (p := ⟨w.heap.size + 1, 0, none⟩) s1).trans x0)
                have P1 := Lib.hid ((B7.out.cell (p := ⟨w.heap.size + 1, 1, none⟩) s1).trans x1)
                have PF0 := Lib.hid ((B7.out.frozen (p := ⟨w.heap.size + 1, 0, none⟩) s1).trans xf0)
                have PF1 := Lib.hid ((B7.out.frozen (p := ⟨w.heap.size + 1, 1, none⟩) s1).trans xf1)
                have s17 : w.heap.size + 1 < w7.heap.size := by omega
                have s08 : w.heap.size ≤ w7.heap.size := by omega
                have dw := d1.trans (B7.out.mono (show w.heap.size ≤ w1.heap.size by omega))
                clear T8 x0 x1 xf0 xf1
                by_cases hc : CurveOk (lsOf a1 a2 a3) (vsOf a1 a2 a3 xa0_2)
                · have HE := Lib.hid (EO.out (by rw [← HDS.out]; exact hfull) hc)
                  have HC := Lib.hid (show true = true ↔ CurveOk (lsOf a1 a2 a3) (vsOf a1 a2 a3 xa0_2) from ⟨fun _ => hc, fun _ => rfl⟩)
                  clear hc
                  go_wp2_with (go_at_call 63; refine (l05Ok_any O (some ⟨g', 0, none⟩) (ds.length + 1) cap' (lsOf a1 a2 a3) (some ⟨gq, 0, none⟩) (ds.length + 1) cq (vsOf a1 a2 a3 xa0_2) w7 s7 hnn hnn (T9.out) (W0.out.rd) (W1.out.rd) true HC.out).mono ?_; rintro e9 w9 ⟨rfl, b9⟩; have q0 := (b9.cell (p := ⟨O, 0, none⟩) s7).trans T9.out.1; have q1 := (b9.cell (p := ⟨O, 1, none⟩) s7).trans T9.out.2; have p0 := (b9.cell (p := ⟨w.heap.size + 1, 0, none⟩) s17).trans P0.out; have p1 := (b9.cell (p := ⟨w.heap.size + 1, 1, none⟩) s17).trans P1.out; have pf0 := (b9.frozen (p := ⟨w.heap.size + 1, 0, none⟩) s17).trans PF0.out; have pf1 := (b9.frozen (p := ⟨w.heap.size + 1, 1, none⟩) s17).trans PF1.out; have U0 := Lib.hid (W0.out.below b9); have U1 := Lib.hid (W1.out.below b9); have dd := dw.trans (b9.mono s08))
                  obtain ⟨rfl, rfl, rfl⟩ := HE.out
                  have t0 : ((w9.setCell ⟨w.heap.size + 1, 0, none⟩ (.slice (some ⟨g', 0, none⟩) (ds.length + 1) cap')).setCell ⟨w.heap.size + 1, 1, none⟩ (.slice (some ⟨gq, 0, none⟩) (ds.length + 1) cq)).cell? ⟨w.heap.size + 1, 0, none⟩ = some (.slice (some ⟨g', 0, none⟩) (ds.length + 1) cap') := (World.cell?_setCell_other _ _ _ _ (by simp)).trans (World.cell?_setCell_same _ _ _ p0)
                  have t1 : ((w9.setCell ⟨w.heap.size + 1, 0, none⟩ (.slice (some ⟨g', 0, none⟩) (ds.length + 1) cap')).setCell ⟨w.heap.size + 1, 1, none⟩ (.slice (some ⟨gq, 0, none⟩) (ds.length + 1) cq)).cell? ⟨w.heap.size + 1, 1, none⟩ = some (.slice (some ⟨gq, 0, none⟩) (ds.length + 1) cq) := World.cell?_setCell_same _ _ _ ((World.cell?_setCell_other _ _ _ _ (by simp)).trans p1)
                  have hbl : Below w.heap.size w ((w9.setCell ⟨w.heap.size + 1, 0, none⟩ (.slice (some ⟨g', 0, none⟩) (ds.length + 1) cap')).setCell ⟨w.heap.size + 1, 1, none⟩ (.slice (some ⟨gq, 0, none⟩) (ds.length + 1) cq)) := (dd.setCell (by simp) _).setCell (by simp) _
                  have ab : Abv (w.heap.size + 2) w9 ((w9.setCell ⟨w.heap.size + 1, 0, none⟩ (.slice (some ⟨g', 0, none⟩) (ds.length + 1) cap')).setCell ⟨w.heap.size + 1, 1, none⟩ (.slice (some ⟨gq, 0, none⟩) (ds.length + 1) cq)) := ((Abv.refl _ _).setCell (by simp) _).setCell (by simp) _
                  exact bodyPost_ret (v := .tuple #[.agg #[.slice (some ⟨g', 0, none⟩) (ds.length + 1) cap', .slice (some ⟨gq, 0, none⟩) (ds.length + 1) cq], .int .i64 0]) (by simp [results, Try.results30, go_sem, t0, t1]) rfl ⟨some ⟨g', 0, none⟩, some ⟨gq, 0, none⟩, cap', cq, by rw [HLN.out, HVL.out], hbl, by rw [HLN.out]; exact ((U0.out.lower (lo' := w.heap.size + 2) (by omega)).abv ab).lower (by omega), by rw [HVL.out]; exact ((U1.out.lower (lo' := w.heap.size + 2) (by omega)).abv ab).lower (by omega), by rw [HLN.out, HVL.out]; exact HDis.out⟩
                · have HE := Lib.hid (ES.out (by rw [← HDS.out]; exact hfull) hc)
                  have HC := Lib.hid (show false = true ↔ CurveOk (lsOf a1 a2 a3) (vsOf a1 a2 a3 xa0_2) from ⟨fun h => (by cases h), fun h => absurd h hc⟩)
                  clear hc
                  go_wp2_with (go_at_call 63; refine (l05Ok_any O (some ⟨g', 0, none⟩) (ds.length + 1) cap' (lsOf a1 a2 a3) (some ⟨gq, 0, none⟩) (ds.length + 1) cq (vsOf a1 a2 a3 xa0_2) w7 s7 hnn hnn (T9.out) (W0.out.rd) (W1.out.rd) false HC.out).mono ?_; rintro e9 w9 ⟨rfl, b9⟩; have q0 := (b9.cell (p := ⟨O, 0, none⟩) s7).trans T9.out.1; have q1 := (b9.cell (p := ⟨O, 1, none⟩) s7).trans T9.out.2; have p0 := (b9.cell (p := ⟨w.heap.size + 1, 0, none⟩) s17).trans P0.out; have p1 := (b9.cell (p := ⟨w.heap.size + 1, 1, none⟩) s17).trans P1.out; have pf0 := (b9.frozen (p := ⟨w.heap.size + 1, 0, none⟩) s17).trans PF0.out; have pf1 := (b9.frozen (p := ⟨w.heap.size + 1, 1, none⟩) s17).trans PF1.out; have U0 := Lib.hid (W0.out.below b9); have U1 := Lib.hid (W1.out.below b9); have dd := dw.trans (b9.mono s08))
                  obtain ⟨rfl, rfl, rfl⟩ := HE.out
                  exact bodyPost_ret (v := .tuple #[.agg #[.slice none 0 0, .slice none 0 0], .int .i64 6]) (by simp [results, Try.results30, go_sem, p0, p1, pf0, pf1]) rfl ⟨none, none, 0, 0, rfl, (by repeat (first | assumption | exact Below.refl _ _ | (refine Below.trans ?_ (dd.mono (by first | omega | (simp; done) | (simp; omega)))) | (refine Below.setCell ?_ (by first | omega | (simp; done) | (simp; omega)) _) | apply below_drewN | apply Below.drew | (refine Below.alloc ?_ (by first | omega | (simp; done) | (simp; omega)) _))), wr0 _ _, wr0 _ _, dis0⟩

    · obtain ⟨e0, e1, e2⟩ := col_no (a0_0 := a0_0) (a0_1 := a0_1) (xa0_2 := xa0_2) (fun h => hr h.2)
      have e3 : lcode a0_0 a0_1 xa0_2 (rng a1 a2 a3) = 2 := lcode_no hl hr
      rw [e0, e1, e2, e3]
      have hn := rng_no hr
      clear e0 e1 e2 e3 hl hr hl0
      rcases hn with hn | ⟨g1, hn⟩ | ⟨g1, g2, hn⟩ | ⟨g1, g2, g3, hn⟩
      all_goals (
        go_enter Try.func30, Try.ntmps30
        go_wp2_with (first | (go_at_call 61; refine (l03Ok_t _ a0_0 a0_1 _ la0_2 ca0_2 xa0_2 _ ha0_2 ⟨by go_simp, by go_simp, by go_simp⟩ ((RA.out.below (by repeat (first | assumption | exact Below.refl _ _ | (refine Below.setCell ?_ (by first | omega | (simp; done) | (simp; omega)) _) | apply below_drewN | apply Below.drew | (refine Below.alloc ?_ (by first | omega | (simp; done) | (simp; omega)) _)))).mono (by first | omega | (simp; done) | (simp; omega))) HL.out).mono ?_; rintro e w1 ⟨rfl, m1, hw1⟩; have b1 : Below ((w.alloc (.cells #[.int .i64 a0_0, .int .i64 a0_1, .slice a0_2 la0_2 ca0_2] 59)).alloc (.cells #[.slice none 0 0, .slice none 0 0] 56)).heap.size ((w.alloc (.cells #[.int .i64 a0_0, .int .i64 a0_1, .slice a0_2 la0_2 ca0_2] 59)).alloc (.cells #[.slice none 0 0, .slice none 0 0] 56)) w1 := (by rw [← hw1]; exact below_drewN (Below.refl _ _) m1); clear hw1; have s1 : w.heap.size + 1 < w1.heap.size := (by have := b1.size; simp at this; omega); obtain ⟨k1, f1⟩ := bcell b1; have z0 : w1.cell? ⟨w.heap.size, 0, none⟩ = some (.int .i64 a0_0) := (by rw [k1 _ _ (by first | omega | (simp; done) | (simp; omega))]; first | (simp; done) | go_simp); have zf0 : w1.frozen? ⟨w.heap.size, 0, none⟩ = false := (by rw [f1 _ _ (by first | omega | (simp; done) | (simp; omega))]; first | (simp; done) | go_simp); have z1 : w1.cell? ⟨w.heap.size, 1, none⟩ = some (.int .i64 a0_1) := (by rw [k1 _ _ (by first | omega | (simp; done) | (simp; omega))]; first | (simp; done) | go_simp); have zf1 : w1.frozen? ⟨w.heap.size, 1, none⟩ = false := (by rw [f1 _ _ (by first | omega | (simp; done) | (simp; omega))]; first | (simp; done) | go_simp); have z2 : w1.cell? ⟨w.heap.size, 2, none⟩ = some (.slice a0_2 la0_2 ca0_2) := (by rw [k1 _ _ (by first | omega | (simp; done) | (simp; omega))]; first | (simp; done) | go_simp); have zf2 : w1.frozen? ⟨w.heap.size, 2, none⟩ = false := (by rw [f1 _ _ (by first | omega | (simp; done) | (simp; omega))]; first | (simp; done) | go_simp); have x0 : w1.cell? ⟨w.heap.size + 1, 0, none⟩ = some (.slice none 0 0) := (by rw [k1 _ _ (by first | omega | (simp; done) | (simp; omega))]; first | (simp; done) | go_simp); have xf0 : w1.frozen? ⟨w.heap.size + 1, 0, none⟩ = false := (by rw [f1 _ _ (by first | omega | (simp; done) | (simp; omega))]; first | (simp; done) | go_simp); have x1 : w1.cell? ⟨w.heap.size + 1, 1, none⟩ = some (.slice none 0 0) := (by rw [k1 _ _ (by first | omega | (simp; done) | (simp; omega))]; first | (simp; done) | go_simp); have xf1 : w1.frozen? ⟨w.heap.size + 1, 1, none⟩ = false := (by rw [f1 _ _ (by first | omega | (simp; done) | (simp; omega))]; first | (simp; done) | go_simp); clear k1 f1; have d1 : Below w.heap.size w w1 := (by repeat (first | assumption | exact Below.refl _ _ | (refine Below.trans ?_ (b1.mono (by first | omega | (simp; done) | (simp; omega)))) | (refine Below.setCell ?_ (by first | omega | (simp; done) | (simp; omega)) _) | apply below_drewN | apply Below.drew | (refine Below.alloc ?_ (by first | omega | (simp; done) | (simp; omega)) _)))) | (go_at_call 47; first | (refine (l02Level_t _ _ (by omega)).mono ?_; rintro e w' ⟨rfl, rfl⟩) | (refine (l02Level_f _ _ (by omega)).mono ?_; rintro e w' ⟨rfl, rfl⟩)) | (go_at_call 46; first | (refine (in_t _ _ _ _ (by omega)).mono ?_; rintro e w' ⟨rfl, rfl⟩) | (refine (in_f _ _ _ _ (by omega)).mono ?_; rintro e w' ⟨rfl, rfl⟩)))
        exact bodyPost_ret (v := .tuple #[.agg #[.slice none 0 0, .slice none 0 0], .int .i64 2]) (by simp [results, Try.results30, go_sem, x0, x1, xf0, xf1]) rfl ⟨none, none, 0, 0, rfl, (by repeat (first | assumption | exact Below.refl _ _ | (refine Below.trans ?_ (d1.mono (by first | omega | (simp; done) | (simp; omega)))) | (refine Below.setCell ?_ (by first | omega | (simp; done) | (simp; omega)) _) | apply below_drewN | apply Below.drew | (refine Below.alloc ?_ (by first | omega | (simp; done) | (simp; omega)) _))), wr0 _ _, wr0 _ _, dis0⟩
        )
  · obtain ⟨e0, e1, e2⟩ := col_no (a1 := a1) (a2 := a2) (a3 := a3) (fun h => hl h.1)
    have e3 : lcode a0_0 a0_1 xa0_2 (rng a1 a2 a3) = 1 := lcode_bad hl
    rw [e0, e1, e2, e3]
    have HL := Lib.hid hl
    clear e0 e1 e2 e3 hl hl0
    go_enter Try.func30, Try.ntmps30
    go_wp2_with (first | (go_at_call 61; refine (l03Ok_f _ a0_0 a0_1 _ la0_2 ca0_2 xa0_2 _ ha0_2 ⟨by go_simp, by go_simp, by go_simp⟩ ((RA.out.below (by repeat (first | assumption | exact Below.refl _ _ | (refine Below.setCell ?_ (by first | omega | (simp; done) | (simp; omega)) _) | apply below_drewN | apply Below.drew | (refine Below.alloc ?_ (by first | omega | (simp; done) | (simp; omega)) _)))).mono (by first | omega | (simp; done) | (simp; omega))) HL.out).mono ?_; rintro e w1 ⟨rfl, m1, hw1⟩; have b1 : Below ((w.alloc (.cells #[.int .i64 a0_0, .int .i64 a0_1, .slice a0_2 la0_2 ca0_2] 59)).alloc (.cells #[.slice none 0 0, .slice none 0 0] 56)).heap.size ((w.alloc (.cells #[.int .i64 a0_0, .int .i64 a0_1, .slice a0_2 la0_2 ca0_2] 59)).alloc (.cells #[.slice none 0 0, .slice none 0 0] 56)) w1 := (by rw [← hw1]; exact below_drewN (Below.refl _ _) m1); clear hw1; have s1 : w.heap.size + 1 < w1.heap.size := (by have := b1.size; simp at this; omega); obtain ⟨k1, f1⟩ := bcell b1; have z0 : w1.cell? ⟨w.heap.size, 0, none⟩ = some (.int .i64 a0_0) := (by rw [k1 _ _ (by first | omega | (simp; done) | (simp; omega))]; first | (simp; done) | go_simp); have zf0 : w1.frozen? ⟨w.heap.size, 0, none⟩ = false := (by rw [f1 _ _ (by first | omega | (simp; done) | (simp; omega))]; first | (simp; done) | go_simp); have z1 : w1.cell? ⟨w.heap.size, 1, none⟩ = some (.int .i64 a0_1) := (by rw [k1 _ _ (by first | omega | (simp; done) | (simp; omega))]; first | (simp; done) | go_simp); have zf1 : w1.frozen? ⟨w.heap.size, 1, none⟩ = false := (by rw [f1 _ _ (by first | omega | (simp; done) | (simp; omega))]; first | (simp; done) | go_simp); have z2 : w1.cell? ⟨w.heap.size, 2, none⟩ = some (.slice a0_2 la0_2 ca0_2) := (by rw [k1 _ _ (by first | omega | (simp; done) | (simp; omega))]; first | (simp; done) | go_simp); have zf2 : w1.frozen? ⟨w.heap.size, 2, none⟩ = false := (by rw [f1 _ _ (by first | omega | (simp; done) | (simp; omega))]; first | (simp; done) | go_simp); have x0 : w1.cell? ⟨w.heap.size + 1, 0, none⟩ = some (.slice none 0 0) := (by rw [k1 _ _ (by first | omega | (simp; done) | (simp; omega))]; first | (simp; done) | go_simp); have xf0 : w1.frozen? ⟨w.heap.size + 1, 0, none⟩ = false := (by rw [f1 _ _ (by first | omega | (simp; done) | (simp; omega))]; first | (simp; done) | go_simp); have x1 : w1.cell? ⟨w.heap.size + 1, 1, none⟩ = some (.slice none 0 0) := (by rw [k1 _ _ (by first | omega | (simp; done) | (simp; omega))]; first | (simp; done) | go_simp); have xf1 : w1.frozen? ⟨w.heap.size + 1, 1, none⟩ = false := (by rw [f1 _ _ (by first | omega | (simp; done) | (simp; omega))]; first | (simp; done) | go_simp); clear k1 f1; have d1 : Below w.heap.size w w1 := (by repeat (first | assumption | exact Below.refl _ _ | (refine Below.trans ?_ (b1.mono (by first | omega | (simp; done) | (simp; omega)))) | (refine Below.setCell ?_ (by first | omega | (simp; done) | (simp; omega)) _) | apply below_drewN | apply Below.drew | (refine Below.alloc ?_ (by first | omega | (simp; done) | (simp; omega)) _)))) | (go_at_call 47; first | (refine (l02Level_t _ _ (by omega)).mono ?_; rintro e w' ⟨rfl, rfl⟩) | (refine (l02Level_f _ _ (by omega)).mono ?_; rintro e w' ⟨rfl, rfl⟩)) | (go_at_call 46; first | (refine (in_t _ _ _ _ (by omega)).mono ?_; rintro e w' ⟨rfl, rfl⟩) | (refine (in_f _ _ _ _ (by omega)).mono ?_; rintro e w' ⟨rfl, rfl⟩)))
    exact bodyPost_ret (v := .tuple #[.agg #[.slice none 0 0, .slice none 0 0], .int .i64 1]) (by simp [results, Try.results30, go_sem, x0, x1, xf0, xf1]) rfl ⟨none, none, 0, 0, rfl, (by repeat (first | assumption | exact Below.refl _ _ | (refine Below.trans ?_ (d1.mono (by first | omega | (simp; done) | (simp; omega)))) | (refine Below.setCell ?_ (by first | omega | (simp; done) | (simp; omega)) _) | apply below_drewN | apply Below.drew | (refine Below.alloc ?_ (by first | omega | (simp; done) | (simp; omega)) _))), wr0 _ _, wr0 _ _, dis0⟩

end Go.Proofs.Ytcimigaimlojlaa
