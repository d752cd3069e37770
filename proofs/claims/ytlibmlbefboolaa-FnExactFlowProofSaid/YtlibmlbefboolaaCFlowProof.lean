import Derived.Test.YtlibmlbefboolaaCIsFlow
namespace Go.Proofs.Ytlibmlbefboolaa
open Go.RowKit

def r0_FlowProof (a0_0 : Int) (xa0_1 : List RDitch) (a1 : Int) (xa2 : List Int) (xa3 : List Int) : Bool := if NetOk a0_0 xa0_1 ∧ (start a0_0 a1 ∧ xa2.length = xa0_1.length ∧ Side a0_0 xa3) then decide (a1 ∈ xa3 ∧ ¬ (0 : Int) ∈ xa3 ∧ leads a0_0 xa0_1 a1 xa2 ∧ outOf xa0_1 xa2 a1 xa0_1.length = cutOf xa0_1 xa3 xa0_1.length) else false
def r1_FlowProof (a0_0 : Int) (xa0_1 : List RDitch) (a1 : Int) (xa2 : List Int) (xa3 : List Int) : Int := ncode a0_0 xa0_1 (start a0_0 a1 ∧ xa2.length = xa0_1.length ∧ Side a0_0 xa3)
theorem fp_yes {a0_0 : Int} {xa0_1 : List RDitch} {a1 : Int} {xa2 xa3 : List Int} (h : NetOk a0_0 xa0_1 ∧ (start a0_0 a1 ∧ xa2.length = xa0_1.length ∧ Side a0_0 xa3)) : r0_FlowProof a0_0 xa0_1 a1 xa2 xa3 = decide (a1 ∈ xa3 ∧ ¬ (0 : Int) ∈ xa3 ∧ leads a0_0 xa0_1 a1 xa2 ∧ outOf xa0_1 xa2 a1 xa0_1.length = cutOf xa0_1 xa3 xa0_1.length) ∧ r1_FlowProof a0_0 xa0_1 a1 xa2 xa3 = 0 := ⟨if_pos h, ncode_ok h.1 h.2⟩
theorem fp_no {a0_0 : Int} {xa0_1 : List RDitch} {a1 : Int} {xa2 xa3 : List Int} (h : ¬ (NetOk a0_0 xa0_1 ∧ (start a0_0 a1 ∧ xa2.length = xa0_1.length ∧ Side a0_0 xa3))) : r0_FlowProof a0_0 xa0_1 a1 xa2 xa3 = false := if_neg h

set_option maxHeartbeats 3200000 in
theorem specC_FlowProof (a0_0 : Int) (a0_1 : Option Addr) (la0_1 ca0_1 : Nat) (xa0_1 : List RDitch) (a1 : Int) (a2 : Option Addr) (la2 ca2 : Nat) (xa2 : List Int) (a3 : Option Addr) (la3 ca3 : Nat) (xa3 : List Int) (w : World) (ha0_0 : (Lit.int .i64 a0_0).wf = true) (ha0_1 : la0_1 ≤ 1048576) (ra0_1 : Rd_Ditch w w.heap.size a0_1 la0_1 xa0_1) (fa0_1 : Wf_Ditch xa0_1) (ha1 : (Lit.int .i64 a1).wf = true) (ha2 : la2 ≤ 1048576) (ra2 : Rd w w.heap.size a2 la2 xa2) (fa2 : Wf xa2) (ha3 : la3 ≤ 1048576) (ra3 : Rd w w.heap.size a3 la3 xa3) (fa3 : Wf xa3) :
    Calls Try.prog 24 #[.agg #[.int .i64 a0_0, .slice a0_1 la0_1 ca0_1], .int .i64 a1, .slice a2 la2 ca2, .slice a3 la3 ca3] w fun e w' => e = .returned (.tuple #[.bool (r0_FlowProof a0_0 xa0_1 a1 xa2 xa3), .int .i64 (r1_FlowProof a0_0 xa0_1 a1 xa2 xa3)]) ∧ Below w.heap.size w w' := by
  have hl0 := ra0_1.len
  have hl2 := ra2.1
  have RA := Lib.hid ra0_1
  have RB := Lib.hid ra2
  have RC := Lib.hid ra3
  clear ra0_1 ra2 ra3
  by_cases hv : NetOk a0_0 xa0_1 ∧ start a0_0 a1
  · have hec : ncode a0_0 xa0_1 (start a0_0 a1) = 0 := ncode_ok hv.1 hv.2
    have EC := Lib.hid hec
    have HV := Lib.hid hv.1
    have HS := Lib.hid hv.2
    have hj1 := hv.1.1.1
    have hj2 := hv.1.1.2
    clear hec
    by_cases hm : la2 = la0_1
    · subst hm
      have h0 : ((la2 : Int) != (la2 : Int)) = false := by simp
      by_cases hsd : Side a0_0 xa3
      · obtain ⟨e0, e1⟩ := fp_yes (a1 := a1) (xa2 := xa2) (xa3 := xa3) ⟨hv.1, hv.2, by rw [hl0, hl2], hsd⟩
        rw [e0, e1]
        have hsd' : true = decide (∀ j, j < xa3.length → stepOk 0 (a0_0 - 1) xa3 j) := (decide_eq_true hsd).symm
        have SD := Lib.hid hsd'
        clear e0 e1 hsd hsd' hv hl0 hl2
        by_cases hL : leads a0_0 xa0_1 a1 xa2
        · have hld : decide (leads a0_0 xa0_1 a1 xa2) = true := decide_eq_true hL
          have LD := Lib.hid hld
          have LL := Lib.hid hL
          clear hld hL
          by_cases h1 : a1 ∈ xa3
          · have t1 : true = decide (a1 ∈ xa3) := (decide_eq_true h1).symm
            have T1 := Lib.hid t1
            have H1 := Lib.hid h1
            clear t1 h1
            by_cases hz : (0 : Int) ∈ xa3
            · have t0 : true = decide ((0 : Int) ∈ xa3) := (decide_eq_true hz).symm
              have T0 := Lib.hid t0
              have er : decide (a1 ∈ xa3 ∧ ¬ (0 : Int) ∈ xa3 ∧ leads a0_0 xa0_1 a1 xa2 ∧ outOf xa0_1 xa2 a1 xa0_1.length = cutOf xa0_1 xa3 xa0_1.length) = false := decide_eq_false (fun h => h.2.1 hz)
              rw [er]
              clear t0 hz er
              go_enter Try.func24, Try.ntmps24
              go_wp2_with (go_at_call 44; refine (l04Code_t _ a0_0 a0_1 la2 ca0_1 xa0_1 _ _ (by simp) ha0_1 ⟨by simp, by simp⟩ ((RA.out.below (by repeat (first | assumption | exact Below.refl _ _ | (refine Below.setCell ?_ (by first | omega | (simp; done) | (simp; omega)) _) | apply below_drewN | apply Below.drew | (refine Below.alloc ?_ (by first | omega | (simp; done) | (simp; omega)) _)))).mono (by first | omega | (simp; done) | (simp; omega)))).mono ?_; rintro e w1 ⟨rfl, b1⟩; rw [EC.out]; have s1 : w.heap.size < w1.heap.size := (by have := b1.size; simp at this; omega); obtain ⟨k1, f1⟩ := bcell b1; have z0 : w1.cell? ⟨w.heap.size, 0, none⟩ = some (.int .i64 a0_0) := (by rw [k1 _ _ (by first | omega | (simp; done) | (simp; omega))]; first | (simp; done) | go_simp); have zf0 : w1.frozen? ⟨w.heap.size, 0, none⟩ = false := (by rw [f1 _ _ (by first | omega | (simp; done) | (simp; omega))]; first | (simp; done) | go_simp); have z1 : w1.cell? ⟨w.heap.size, 1, none⟩ = some (.slice a0_1 la2 ca0_1) := (by rw [k1 _ _ (by first | omega | (simp; done) | (simp; omega))]; first | (simp; done) | go_simp); have zf1 : w1.frozen? ⟨w.heap.size, 1, none⟩ = false := (by rw [f1 _ _ (by first | omega | (simp; done) | (simp; omega))]; first | (simp; done) | go_simp); clear k1 f1; have d1 : Below w.heap.size w w1 := (by repeat (first | assumption | exact Below.refl _ _ | (refine Below.trans ?_ (b1.mono (by first | omega | (simp; done) | (simp; omega)))) | (refine Below.setCell ?_ (by first | omega | (simp; done) | (simp; omega)) _) | apply below_drewN | apply Below.drew | (refine Below.alloc ?_ (by first | omega | (simp; done) | (simp; omega)) _))))
              go_wp2_with (go_at_call 40; refine (l00Rises_t _ _ _ xa3 _ _ _ ha3 ((RC.out.below d1).mono (by first | omega | (simp; done) | (simp; omega))) true SD.out).mono ?_; rintro e w2 ⟨rfl, b2⟩; have s2 : w.heap.size < w2.heap.size := (by have := b2.size; omega); have y0 : w2.cell? ⟨w.heap.size, 0, none⟩ = _ := (b2.cell (p := ⟨w.heap.size, 0, none⟩) (show w.heap.size < _ from (by first | omega | (simp; done) | (simp; omega)))).trans z0; have yf0 : w2.frozen? ⟨w.heap.size, 0, none⟩ = _ := (b2.frozen (p := ⟨w.heap.size, 0, none⟩) (show w.heap.size < _ from (by first | omega | (simp; done) | (simp; omega)))).trans zf0; have y1 : w2.cell? ⟨w.heap.size, 1, none⟩ = _ := (b2.cell (p := ⟨w.heap.size, 1, none⟩) (show w.heap.size < _ from (by first | omega | (simp; done) | (simp; omega)))).trans z1; have yf1 : w2.frozen? ⟨w.heap.size, 1, none⟩ = _ := (b2.frozen (p := ⟨w.heap.size, 1, none⟩) (show w.heap.size < _ from (by first | omega | (simp; done) | (simp; omega)))).trans zf1; have d2 : Below w.heap.size w w2 := (by repeat (first | assumption | exact Below.refl _ _ | (refine Below.trans ?_ (b2.mono (by first | omega | (simp; done) | (simp; omega)))) | (refine Below.trans ?_ (d1.mono (by first | omega | (simp; done) | (simp; omega)))) | (refine Below.setCell ?_ (by first | omega | (simp; done) | (simp; omega)) _) | apply below_drewN | apply Below.drew | (refine Below.alloc ?_ (by first | omega | (simp; done) | (simp; omega)) _))))
              go_wp2_with (go_at_call 45; refine (l04Lead_t _ a0_0 a0_1 la2 ca0_1 xa0_1 _ _ _ xa2 _ s2 ha0_1 ⟨y0, y1⟩ ((RA.out.below d2).mono (by first | omega | (simp; done) | (simp; omega))) ((RB.out.below d2).mono (by first | omega | (simp; done) | (simp; omega))) HV.out HS.out).mono ?_; rintro e w3 ⟨s, rfl, hs, b3⟩; rw [LD.out]; have HSS := Lib.hid hs; clear hs; have s3 : w.heap.size < w3.heap.size := (by have := b3.size; omega); have x0 : w3.cell? ⟨w.heap.size, 0, none⟩ = _ := (b3.cell (p := ⟨w.heap.size, 0, none⟩) (show w.heap.size < _ from (by first | omega | (simp; done) | (simp; omega)))).trans y0; have xf0 : w3.frozen? ⟨w.heap.size, 0, none⟩ = _ := (b3.frozen (p := ⟨w.heap.size, 0, none⟩) (show w.heap.size < _ from (by first | omega | (simp; done) | (simp; omega)))).trans yf0; have x1 : w3.cell? ⟨w.heap.size, 1, none⟩ = _ := (b3.cell (p := ⟨w.heap.size, 1, none⟩) (show w.heap.size < _ from (by first | omega | (simp; done) | (simp; omega)))).trans y1; have xf1 : w3.frozen? ⟨w.heap.size, 1, none⟩ = _ := (b3.frozen (p := ⟨w.heap.size, 1, none⟩) (show w.heap.size < _ from (by first | omega | (simp; done) | (simp; omega)))).trans yf1; have d3 : Below w.heap.size w w3 := (by repeat (first | assumption | exact Below.refl _ _ | (refine Below.trans ?_ (b3.mono (by first | omega | (simp; done) | (simp; omega)))) | (refine Below.trans ?_ (d2.mono (by first | omega | (simp; done) | (simp; omega)))) | (refine Below.setCell ?_ (by first | omega | (simp; done) | (simp; omega)) _) | apply below_drewN | apply Below.drew | (refine Below.alloc ?_ (by first | omega | (simp; done) | (simp; omega)) _))))
              go_wp2_with fail
              refine (l00Has_t _ _ _ xa3 _ _ ha3 ((RC.out.below d3).mono (by first | omega | (simp; done) | (simp; omega))) true T1.out).mono ?_
              rintro e w4 ⟨rfl, rfl⟩
              go_wp2_with fail
              refine (l00Has_t _ _ _ xa3 _ _ ha3 ((RC.out.below d3).mono (by first | omega | (simp; done) | (simp; omega))) true T0.out).mono ?_
              rintro e w4 ⟨rfl, rfl⟩
              go_wp2
              go_ret2
              exact ⟨rfl, d3⟩
            · have t0 : false = decide ((0 : Int) ∈ xa3) := (decide_eq_false hz).symm
              have T0 := Lib.hid t0
              have er : decide (a1 ∈ xa3 ∧ ¬ (0 : Int) ∈ xa3 ∧ leads a0_0 xa0_1 a1 xa2 ∧ outOf xa0_1 xa2 a1 xa0_1.length = cutOf xa0_1 xa3 xa0_1.length) = (cutOf xa0_1 xa3 xa0_1.length == outOf xa0_1 xa2 a1 xa0_1.length) := by
                by_cases hq : cutOf xa0_1 xa3 xa0_1.length = outOf xa0_1 xa2 a1 xa0_1.length
                · rw [decide_eq_true ⟨H1.out, hz, LL.out, hq.symm⟩]
                  simp [hq]
                · rw [decide_eq_false (fun h => hq h.2.2.2.symm)]
                  simp [hq]
              rw [er]
              clear t0 hz er
              go_enter Try.func24, Try.ntmps24
              go_wp2_with (go_at_call 44; refine (l04Code_t _ a0_0 a0_1 la2 ca0_1 xa0_1 _ _ (by simp) ha0_1 ⟨by simp, by simp⟩ ((RA.out.below (by repeat (first | assumption | exact Below.refl _ _ | (refine Below.setCell ?_ (by first | omega | (simp; done) | (simp; omega)) _) | apply below_drewN | apply Below.drew | (refine Below.alloc ?_ (by first | omega | (simp; done) | (simp; omega)) _)))).mono (by first | omega | (simp; done) | (simp; omega)))).mono ?_; rintro e w1 ⟨rfl, b1⟩; rw [EC.out]; have s1 : w.heap.size < w1.heap.size := (by have := b1.size; simp at this; omega); obtain ⟨k1, f1⟩ := bcell b1; have z0 : w1.cell? ⟨w.heap.size, 0, none⟩ = some (.int .i64 a0_0) := (by rw [k1 _ _ (by first | omega | (simp; done) | (simp; omega))]; first | (simp; done) | go_simp); have zf0 : w1.frozen? ⟨w.heap.size, 0, none⟩ = false := (by rw [f1 _ _ (by first | omega | (simp; done) | (simp; omega))]; first | (simp; done) | go_simp); have z1 : w1.cell? ⟨w.heap.size, 1, none⟩ = some (.slice a0_1 la2 ca0_1) := (by rw [k1 _ _ (by first | omega | (simp; done) | (simp; omega))]; first | (simp; done) | go_simp); have zf1 : w1.frozen? ⟨w.heap.size, 1, none⟩ = false := (by rw [f1 _ _ (by first | omega | (simp; done) | (simp; omega))]; first | (simp; done) | go_simp); clear k1 f1; have d1 : Below w.heap.size w w1 := (by repeat (first | assumption | exact Below.refl _ _ | (refine Below.trans ?_ (b1.mono (by first | omega | (simp; done) | (simp; omega)))) | (refine Below.setCell ?_ (by first | omega | (simp; done) | (simp; omega)) _) | apply below_drewN | apply Below.drew | (refine Below.alloc ?_ (by first | omega | (simp; done) | (simp; omega)) _))))
              go_wp2_with (go_at_call 40; refine (l00Rises_t _ _ _ xa3 _ _ _ ha3 ((RC.out.below d1).mono (by first | omega | (simp; done) | (simp; omega))) true SD.out).mono ?_; rintro e w2 ⟨rfl, b2⟩; have s2 : w.heap.size < w2.heap.size := (by have := b2.size; omega); have y0 : w2.cell? ⟨w.heap.size, 0, none⟩ = _ := (b2.cell (p := ⟨w.heap.size, 0, none⟩) (show w.heap.size < _ from (by first | omega | (simp; done) | (simp; omega)))).trans z0; have yf0 : w2.frozen? ⟨w.heap.size, 0, none⟩ = _ := (b2.frozen (p := ⟨w.heap.size, 0, none⟩) (show w.heap.size < _ from (by first | omega | (simp; done) | (simp; omega)))).trans zf0; have y1 : w2.cell? ⟨w.heap.size, 1, none⟩ = _ := (b2.cell (p := ⟨w.heap.size, 1, none⟩) (show w.heap.size < _ from (by first | omega | (simp; done) | (simp; omega)))).trans z1; have yf1 : w2.frozen? ⟨w.heap.size, 1, none⟩ = _ := (b2.frozen (p := ⟨w.heap.size, 1, none⟩) (show w.heap.size < _ from (by first | omega | (simp; done) | (simp; omega)))).trans zf1; have d2 : Below w.heap.size w w2 := (by repeat (first | assumption | exact Below.refl _ _ | (refine Below.trans ?_ (b2.mono (by first | omega | (simp; done) | (simp; omega)))) | (refine Below.trans ?_ (d1.mono (by first | omega | (simp; done) | (simp; omega)))) | (refine Below.setCell ?_ (by first | omega | (simp; done) | (simp; omega)) _) | apply below_drewN | apply Below.drew | (refine Below.alloc ?_ (by first | omega | (simp; done) | (simp; omega)) _))))
              go_wp2_with (go_at_call 45; refine (l04Lead_t _ a0_0 a0_1 la2 ca0_1 xa0_1 _ _ _ xa2 _ s2 ha0_1 ⟨y0, y1⟩ ((RA.out.below d2).mono (by first | omega | (simp; done) | (simp; omega))) ((RB.out.below d2).mono (by first | omega | (simp; done) | (simp; omega))) HV.out HS.out).mono ?_; rintro e w3 ⟨s, rfl, hs, b3⟩; rw [LD.out]; have HSS := Lib.hid hs; clear hs; have s3 : w.heap.size < w3.heap.size := (by have := b3.size; omega); have x0 : w3.cell? ⟨w.heap.size, 0, none⟩ = _ := (b3.cell (p := ⟨w.heap.size, 0, none⟩) (show w.heap.size < _ from (by first | omega | (simp; done) | (simp; omega)))).trans y0; have xf0 : w3.frozen? ⟨w.heap.size, 0, none⟩ = _ := (b3.frozen (p := ⟨w.heap.size, 0, none⟩) (show w.heap.size < _ from (by first | omega | (simp; done) | (simp; omega)))).trans yf0; have x1 : w3.cell? ⟨w.heap.size, 1, none⟩ = _ := (b3.cell (p := ⟨w.heap.size, 1, none⟩) (show w.heap.size < _ from (by first | omega | (simp; done) | (simp; omega)))).trans y1; have xf1 : w3.frozen? ⟨w.heap.size, 1, none⟩ = _ := (b3.frozen (p := ⟨w.heap.size, 1, none⟩) (show w.heap.size < _ from (by first | omega | (simp; done) | (simp; omega)))).trans yf1; have d3 : Below w.heap.size w w3 := (by repeat (first | assumption | exact Below.refl _ _ | (refine Below.trans ?_ (b3.mono (by first | omega | (simp; done) | (simp; omega)))) | (refine Below.trans ?_ (d2.mono (by first | omega | (simp; done) | (simp; omega)))) | (refine Below.setCell ?_ (by first | omega | (simp; done) | (simp; omega)) _) | apply below_drewN | apply Below.drew | (refine Below.alloc ?_ (by first | omega | (simp; done) | (simp; omega)) _))))
              go_wp2_with fail
              refine (l00Has_t _ _ _ xa3 _ _ ha3 ((RC.out.below d3).mono (by first | omega | (simp; done) | (simp; omega))) true T1.out).mono ?_
              rintro e w4 ⟨rfl, rfl⟩
              go_wp2_with fail
              refine (l00Has_t _ _ _ xa3 _ _ ha3 ((RC.out.below d3).mono (by first | omega | (simp; done) | (simp; omega))) false T0.out).mono ?_
              rintro e w4 ⟨rfl, rfl⟩
              go_wp2_with fail
              refine (l04Cut_t _ a0_0 a0_1 la2 ca0_1 xa0_1 _ _ _ xa3 _ ha0_1 ha3 ⟨x0, x1⟩ ((RA.out.below d3).mono (by first | omega | (simp; done) | (simp; omega))) ((RC.out.below d3).mono (by first | omega | (simp; done) | (simp; omega))) HV.out).mono ?_
              rintro e w4 ⟨rfl, rfl⟩
              rw [HSS.out LL.out]
              go_wp2
              go_ret2
              exact ⟨rfl, d3⟩
          · have t1 : false = decide (a1 ∈ xa3) := (decide_eq_false h1).symm
            have T1 := Lib.hid t1
            have er : decide (a1 ∈ xa3 ∧ ¬ (0 : Int) ∈ xa3 ∧ leads a0_0 xa0_1 a1 xa2 ∧ outOf xa0_1 xa2 a1 xa0_1.length = cutOf xa0_1 xa3 xa0_1.length) = false := decide_eq_false (fun h => h1 h.1)
            rw [er]
            clear t1 h1 er
            go_enter Try.func24, Try.ntmps24
            go_wp2_with (go_at_call 44; refine (l04Code_t _ a0_0 a0_1 la2 ca0_1 xa0_1 _ _ (by simp) ha0_1 ⟨by simp, by simp⟩ ((RA.out.below (by repeat (first | assumption | exact Below.refl _ _ | (refine Below.setCell ?_ (by first | omega | (simp; done) | (simp; omega)) _) | apply below_drewN | apply Below.drew | (refine Below.alloc ?_ (by first | omega | (simp; done) | (simp; omega)) _)))).mono (by first | omega | (simp; done) | (simp; omega)))).mono ?_; rintro e w1 ⟨rfl, b1⟩; rw [EC.out]; have s1 : w.heap.size < w1.heap.size := (by have := b1.size; simp at this; omega); obtain ⟨k1, f1⟩ := bcell b1; have z0 : w1.cell? ⟨w.heap.size, 0, none⟩ = some (.int .i64 a0_0) := (by rw [k1 _ _ (by first | omega | (simp; done) | (simp; omega))]; first | (simp; done) | go_simp); have zf0 : w1.frozen? ⟨w.heap.size, 0, none⟩ = false := (by rw [f1 _ _ (by first | omega | (simp; done) | (simp; omega))]; first | (simp; done) | go_simp); have z1 : w1.cell? ⟨w.heap.size, 1, none⟩ = some (.slice a0_1 la2 ca0_1) := (by rw [k1 _ _ (by first | omega | (simp; done) | (simp; omega))]; first | (simp; done) | go_simp); have zf1 : w1.frozen? ⟨w.heap.size, 1, none⟩ = false := (by rw [f1 _ _ (by first | omega | (simp; done) | (simp; omega))]; first | (simp; done) | go_simp); clear k1 f1; have d1 : Below w.heap.size w w1 := (by repeat (first | assumption | exact Below.refl _ _ | (refine Below.trans ?_ (b1.mono (by first | omega | (simp; done) | (simp; omega)))) | (refine Below.setCell ?_ (by first | omega | (simp; done) | (simp; omega)) _) | apply below_drewN | apply Below.drew | (refine Below.alloc ?_ (by first | omega | (simp; done) | (simp; omega)) _))))
            go_wp2_with (go_at_call 40; refine (l00Rises_t _ _ _ xa3 _ _ _ ha3 ((RC.out.below d1).mono (by first | omega | (simp; done) | (simp; omega))) true SD.out).mono ?_; rintro e w2 ⟨rfl, b2⟩; have s2 : w.heap.size < w2.heap.size := (by have := b2.size; omega); have y0 : w2.cell? ⟨w.heap.size, 0, none⟩ = _ := (b2.cell (p := ⟨w.heap.size, 0, none⟩) (show w.heap.size < _ from (by first | omega | (simp; done) | (simp; omega)))).trans z0; have yf0 : w2.frozen? ⟨w.heap.size, 0, none⟩ = _ := (b2.frozen (p := ⟨w.heap.size, 0, none⟩) (show w.heap.size < _ from (by first | omega | (simp; done) | (simp; omega)))).trans zf0; have y1 : w2.cell? ⟨w.heap.size, 1, none⟩ = _ := (b2.cell (p := ⟨w.heap.size, 1, none⟩) (show w.heap.size < _ from (by first | omega | (simp; done) | (simp; omega)))).trans z1; have yf1 : w2.frozen? ⟨w.heap.size, 1, none⟩ = _ := (b2.frozen (p := ⟨w.heap.size, 1, none⟩) (show w.heap.size < _ from (by first | omega | (simp; done) | (simp; omega)))).trans zf1; have d2 : Below w.heap.size w w2 := (by repeat (first | assumption | exact Below.refl _ _ | (refine Below.trans ?_ (b2.mono (by first | omega | (simp; done) | (simp; omega)))) | (refine Below.trans ?_ (d1.mono (by first | omega | (simp; done) | (simp; omega)))) | (refine Below.setCell ?_ (by first | omega | (simp; done) | (simp; omega)) _) | apply below_drewN | apply Below.drew | (refine Below.alloc ?_ (by first | omega | (simp; done) | (simp; omega)) _))))
            go_wp2_with (go_at_call 45; refine (l04Lead_t _ a0_0 a0_1 la2 ca0_1 xa0_1 _ _ _ xa2 _ s2 ha0_1 ⟨y0, y1⟩ ((RA.out.below d2).mono (by first | omega | (simp; done) | (simp; omega))) ((RB.out.below d2).mono (by first | omega | (simp; done) | (simp; omega))) HV.out HS.out).mono ?_; rintro e w3 ⟨s, rfl, hs, b3⟩; rw [LD.out]; have HSS := Lib.hid hs; clear hs; have s3 : w.heap.size < w3.heap.size := (by have := b3.size; omega); have x0 : w3.cell? ⟨w.heap.size, 0, none⟩ = _ := (b3.cell (p := ⟨w.heap.size, 0, none⟩) (show w.heap.size < _ from (by first | omega | (simp; done) | (simp; omega)))).trans y0; have xf0 : w3.frozen? ⟨w.heap.size, 0, none⟩ = _ := (b3.frozen (p := ⟨w.heap.size, 0, none⟩) (show w.heap.size < _ from (by first | omega | (simp; done) | (simp; omega)))).trans yf0; have x1 : w3.cell? ⟨w.heap.size, 1, none⟩ = _ := (b3.cell (p := ⟨w.heap.size, 1, none⟩) (show w.heap.size < _ from (by first | omega | (simp; done) | (simp; omega)))).trans y1; have xf1 : w3.frozen? ⟨w.heap.size, 1, none⟩ = _ := (b3.frozen (p := ⟨w.heap.size, 1, none⟩) (show w.heap.size < _ from (by first | omega | (simp; done) | (simp; omega)))).trans yf1; have d3 : Below w.heap.size w w3 := (by repeat (first | assumption | exact Below.refl _ _ | (refine Below.trans ?_ (b3.mono (by first | omega | (simp; done) | (simp; omega)))) | (refine Below.trans ?_ (d2.mono (by first | omega | (simp; done) | (simp; omega)))) | (refine Below.setCell ?_ (by first | omega | (simp; done) | (simp; omega)) _) | apply below_drewN | apply Below.drew | (refine Below.alloc ?_ (by first | omega | (simp; done) | (simp; omega)) _))))
            go_wp2_with fail
            refine (l00Has_t _ _ _ xa3 _ _ ha3 ((RC.out.below d3).mono (by first | omega | (simp; done) | (simp; omega))) false T1.out).mono ?_
            rintro e w4 ⟨rfl, rfl⟩
            go_wp2
            go_ret2
            exact ⟨rfl, d3⟩
        · have hld : decide (leads a0_0 xa0_1 a1 xa2) = false := decide_eq_false hL
          have LD := Lib.hid hld
          have er : decide (a1 ∈ xa3 ∧ ¬ (0 : Int) ∈ xa3 ∧ leads a0_0 xa0_1 a1 xa2 ∧ outOf xa0_1 xa2 a1 xa0_1.length = cutOf xa0_1 xa3 xa0_1.length) = false := decide_eq_false (fun h => hL h.2.2.1)
          rw [er]
          clear hld hL er
          go_enter Try.func24, Try.ntmps24
          go_wp2_with (go_at_call 44; refine (l04Code_t _ a0_0 a0_1 la2 ca0_1 xa0_1 _ _ (by simp) ha0_1 ⟨by simp, by simp⟩ ((RA.out.below (by repeat (first | assumption | exact Below.refl _ _ | (refine Below.setCell ?_ (by first | omega | (simp; done) | (simp; omega)) _) | apply below_drewN | apply Below.drew | (refine Below.alloc ?_ (by first | omega | (simp; done) | (simp; omega)) _)))).mono (by first | omega | (simp; done) | (simp; omega)))).mono ?_; rintro e w1 ⟨rfl, b1⟩; rw [EC.out]; have s1 : w.heap.size < w1.heap.size := (by have := b1.size; simp at this; omega); obtain ⟨k1, f1⟩ := bcell b1; have z0 : w1.cell? ⟨w.heap.size, 0, none⟩ = some (.int .i64 a0_0) := (by rw [k1 _ _ (by first | omega | (simp; done) | (simp; omega))]; first | (simp; done) | go_simp); have zf0 : w1.frozen? ⟨w.heap.size, 0, none⟩ = false := (by rw [f1 _ _ (by first | omega | (simp; done) | (simp; omega))]; first | (simp; done) | go_simp); have z1 : w1.cell? ⟨w.heap.size, 1, none⟩ = some (.slice a0_1 la2 ca0_1) := (by rw [k1 _ _ (by first | omega | (simp; done) | (simp; omega))]; first | (simp; done) | go_simp); have zf1 : w1.frozen? ⟨w.heap.size, 1, none⟩ = false := (by rw [f1 _ _ (by first | omega | (simp; done) | (simp; omega))]; first | (simp; done) | go_simp); clear k1 f1; have d1 : Below w.heap.size w w1 := (by repeat (first | assumption | exact Below.refl _ _ | (refine Below.trans ?_ (b1.mono (by first | omega | (simp; done) | (simp; omega)))) | (refine Below.setCell ?_ (by first | omega | (simp; done) | (simp; omega)) _) | apply below_drewN | apply Below.drew | (refine Below.alloc ?_ (by first | omega | (simp; done) | (simp; omega)) _))))
          go_wp2_with (go_at_call 40; refine (l00Rises_t _ _ _ xa3 _ _ _ ha3 ((RC.out.below d1).mono (by first | omega | (simp; done) | (simp; omega))) true SD.out).mono ?_; rintro e w2 ⟨rfl, b2⟩; have s2 : w.heap.size < w2.heap.size := (by have := b2.size; omega); have y0 : w2.cell? ⟨w.heap.size, 0, none⟩ = _ := (b2.cell (p := ⟨w.heap.size, 0, none⟩) (show w.heap.size < _ from (by first | omega | (simp; done) | (simp; omega)))).trans z0; have yf0 : w2.frozen? ⟨w.heap.size, 0, none⟩ = _ := (b2.frozen (p := ⟨w.heap.size, 0, none⟩) (show w.heap.size < _ from (by first | omega | (simp; done) | (simp; omega)))).trans zf0; have y1 : w2.cell? ⟨w.heap.size, 1, none⟩ = _ := (b2.cell (p := ⟨w.heap.size, 1, none⟩) (show w.heap.size < _ from (by first | omega | (simp; done) | (simp; omega)))).trans z1; have yf1 : w2.frozen? ⟨w.heap.size, 1, none⟩ = _ := (b2.frozen (p := ⟨w.heap.size, 1, none⟩) (show w.heap.size < _ from (by first | omega | (simp; done) | (simp; omega)))).trans zf1; have d2 : Below w.heap.size w w2 := (by repeat (first | assumption | exact Below.refl _ _ | (refine Below.trans ?_ (b2.mono (by first | omega | (simp; done) | (simp; omega)))) | (refine Below.trans ?_ (d1.mono (by first | omega | (simp; done) | (simp; omega)))) | (refine Below.setCell ?_ (by first | omega | (simp; done) | (simp; omega)) _) | apply below_drewN | apply Below.drew | (refine Below.alloc ?_ (by first | omega | (simp; done) | (simp; omega)) _))))
          go_wp2_with (go_at_call 45; refine (l04Lead_t _ a0_0 a0_1 la2 ca0_1 xa0_1 _ _ _ xa2 _ s2 ha0_1 ⟨y0, y1⟩ ((RA.out.below d2).mono (by first | omega | (simp; done) | (simp; omega))) ((RB.out.below d2).mono (by first | omega | (simp; done) | (simp; omega))) HV.out HS.out).mono ?_; rintro e w3 ⟨s, rfl, hs, b3⟩; rw [LD.out]; have HSS := Lib.hid hs; clear hs; have s3 : w.heap.size < w3.heap.size := (by have := b3.size; omega); have x0 : w3.cell? ⟨w.heap.size, 0, none⟩ = _ := (b3.cell (p := ⟨w.heap.size, 0, none⟩) (show w.heap.size < _ from (by first | omega | (simp; done) | (simp; omega)))).trans y0; have xf0 : w3.frozen? ⟨w.heap.size, 0, none⟩ = _ := (b3.frozen (p := ⟨w.heap.size, 0, none⟩) (show w.heap.size < _ from (by first | omega | (simp; done) | (simp; omega)))).trans yf0; have x1 : w3.cell? ⟨w.heap.size, 1, none⟩ = _ := (b3.cell (p := ⟨w.heap.size, 1, none⟩) (show w.heap.size < _ from (by first | omega | (simp; done) | (simp; omega)))).trans y1; have xf1 : w3.frozen? ⟨w.heap.size, 1, none⟩ = _ := (b3.frozen (p := ⟨w.heap.size, 1, none⟩) (show w.heap.size < _ from (by first | omega | (simp; done) | (simp; omega)))).trans yf1; have d3 : Below w.heap.size w w3 := (by repeat (first | assumption | exact Below.refl _ _ | (refine Below.trans ?_ (b3.mono (by first | omega | (simp; done) | (simp; omega)))) | (refine Below.trans ?_ (d2.mono (by first | omega | (simp; done) | (simp; omega)))) | (refine Below.setCell ?_ (by first | omega | (simp; done) | (simp; omega)) _) | apply below_drewN | apply Below.drew | (refine Below.alloc ?_ (by first | omega | (simp; done) | (simp; omega)) _))))
          go_ret2
          exact ⟨rfl, d3⟩
      · have e0 := fp_no (a0_0 := a0_0) (xa0_1 := xa0_1) (a1 := a1) (xa2 := xa2) (xa3 := xa3) (fun h => hsd h.2.2.2)
        have e1 : r1_FlowProof a0_0 xa0_1 a1 xa2 xa3 = 2 := ncode_no hv.1 (fun h => hsd h.2.2)
        rw [e0, e1]
        have hsd' : false = decide (∀ j, j < xa3.length → stepOk 0 (a0_0 - 1) xa3 j) := (decide_eq_false hsd).symm
        have SD := Lib.hid hsd'
        clear e0 e1 hsd hsd' hv hl0 hl2
        go_enter Try.func24, Try.ntmps24
        go_wp2_with (go_at_call 44; refine (l04Code_t _ a0_0 a0_1 la2 ca0_1 xa0_1 _ _ (by simp) ha0_1 ⟨by simp, by simp⟩ ((RA.out.below (by repeat (first | assumption | exact Below.refl _ _ | (refine Below.setCell ?_ (by first | omega | (simp; done) | (simp; omega)) _) | apply below_drewN | apply Below.drew | (refine Below.alloc ?_ (by first | omega | (simp; done) | (simp; omega)) _)))).mono (by first | omega | (simp; done) | (simp; omega)))).mono ?_; rintro e w1 ⟨rfl, b1⟩; rw [EC.out]; have s1 : w.heap.size < w1.heap.size := (by have := b1.size; simp at this; omega); obtain ⟨k1, f1⟩ := bcell b1; have z0 : w1.cell? ⟨w.heap.size, 0, none⟩ = some (.int .i64 a0_0) := (by rw [k1 _ _ (by first | omega | (simp; done) | (simp; omega))]; first | (simp; done) | go_simp); have zf0 : w1.frozen? ⟨w.heap.size, 0, none⟩ = false := (by rw [f1 _ _ (by first | omega | (simp; done) | (simp; omega))]; first | (simp; done) | go_simp); have z1 : w1.cell? ⟨w.heap.size, 1, none⟩ = some (.slice a0_1 la2 ca0_1) := (by rw [k1 _ _ (by first | omega | (simp; done) | (simp; omega))]; first | (simp; done) | go_simp); have zf1 : w1.frozen? ⟨w.heap.size, 1, none⟩ = false := (by rw [f1 _ _ (by first | omega | (simp; done) | (simp; omega))]; first | (simp; done) | go_simp); clear k1 f1; have d1 : Below w.heap.size w w1 := (by repeat (first | assumption | exact Below.refl _ _ | (refine Below.trans ?_ (b1.mono (by first | omega | (simp; done) | (simp; omega)))) | (refine Below.setCell ?_ (by first | omega | (simp; done) | (simp; omega)) _) | apply below_drewN | apply Below.drew | (refine Below.alloc ?_ (by first | omega | (simp; done) | (simp; omega)) _))))
        go_wp2_with (go_at_call 40; refine (l00Rises_t _ _ _ xa3 _ _ _ ha3 ((RC.out.below d1).mono (by first | omega | (simp; done) | (simp; omega))) false SD.out).mono ?_; rintro e w2 ⟨rfl, b2⟩; have s2 : w.heap.size < w2.heap.size := (by have := b2.size; omega); have y0 : w2.cell? ⟨w.heap.size, 0, none⟩ = _ := (b2.cell (p := ⟨w.heap.size, 0, none⟩) (show w.heap.size < _ from (by first | omega | (simp; done) | (simp; omega)))).trans z0; have yf0 : w2.frozen? ⟨w.heap.size, 0, none⟩ = _ := (b2.frozen (p := ⟨w.heap.size, 0, none⟩) (show w.heap.size < _ from (by first | omega | (simp; done) | (simp; omega)))).trans zf0; have y1 : w2.cell? ⟨w.heap.size, 1, none⟩ = _ := (b2.cell (p := ⟨w.heap.size, 1, none⟩) (show w.heap.size < _ from (by first | omega | (simp; done) | (simp; omega)))).trans z1; have yf1 : w2.frozen? ⟨w.heap.size, 1, none⟩ = _ := (b2.frozen (p := ⟨w.heap.size, 1, none⟩) (show w.heap.size < _ from (by first | omega | (simp; done) | (simp; omega)))).trans zf1; have d2 : Below w.heap.size w w2 := (by repeat (first | assumption | exact Below.refl _ _ | (refine Below.trans ?_ (b2.mono (by first | omega | (simp; done) | (simp; omega)))) | (refine Below.trans ?_ (d1.mono (by first | omega | (simp; done) | (simp; omega)))) | (refine Below.setCell ?_ (by first | omega | (simp; done) | (simp; omega)) _) | apply below_drewN | apply Below.drew | (refine Below.alloc ?_ (by first | omega | (simp; done) | (simp; omega)) _))))
        go_ret2
        exact ⟨rfl, d2⟩
    · have hne : ¬ xa2.length = xa0_1.length := fun h => hm (by rw [← hl0, ← hl2, h])
      have e0 := fp_no (a0_0 := a0_0) (xa0_1 := xa0_1) (a1 := a1) (xa2 := xa2) (xa3 := xa3) (fun h => hne h.2.2.1)
      have e1 : r1_FlowProof a0_0 xa0_1 a1 xa2 xa3 = 2 := ncode_no hv.1 (fun h => hne h.2.1)
      rw [e0, e1]
      have h0 : ((la2 : Int) != (la0_1 : Int)) = true := by simp; omega
      clear e0 e1 hv hl0 hl2 hm hne
      go_enter Try.func24, Try.ntmps24
      go_wp2_with (go_at_call 44; refine (l04Code_t _ a0_0 a0_1 la0_1 ca0_1 xa0_1 _ _ (by simp) ha0_1 ⟨by simp, by simp⟩ ((RA.out.below (by repeat (first | assumption | exact Below.refl _ _ | (refine Below.setCell ?_ (by first | omega | (simp; done) | (simp; omega)) _) | apply below_drewN | apply Below.drew | (refine Below.alloc ?_ (by first | omega | (simp; done) | (simp; omega)) _)))).mono (by first | omega | (simp; done) | (simp; omega)))).mono ?_; rintro e w1 ⟨rfl, b1⟩; rw [EC.out]; have s1 : w.heap.size < w1.heap.size := (by have := b1.size; simp at this; omega); obtain ⟨k1, f1⟩ := bcell b1; have z0 : w1.cell? ⟨w.heap.size, 0, none⟩ = some (.int .i64 a0_0) := (by rw [k1 _ _ (by first | omega | (simp; done) | (simp; omega))]; first | (simp; done) | go_simp); have zf0 : w1.frozen? ⟨w.heap.size, 0, none⟩ = false := (by rw [f1 _ _ (by first | omega | (simp; done) | (simp; omega))]; first | (simp; done) | go_simp); have z1 : w1.cell? ⟨w.heap.size, 1, none⟩ = some (.slice a0_1 la0_1 ca0_1) := (by rw [k1 _ _ (by first | omega | (simp; done) | (simp; omega))]; first | (simp; done) | go_simp); have zf1 : w1.frozen? ⟨w.heap.size, 1, none⟩ = false := (by rw [f1 _ _ (by first | omega | (simp; done) | (simp; omega))]; first | (simp; done) | go_simp); clear k1 f1; have d1 : Below w.heap.size w w1 := (by repeat (first | assumption | exact Below.refl _ _ | (refine Below.trans ?_ (b1.mono (by first | omega | (simp; done) | (simp; omega)))) | (refine Below.setCell ?_ (by first | omega | (simp; done) | (simp; omega)) _) | apply below_drewN | apply Below.drew | (refine Below.alloc ?_ (by first | omega | (simp; done) | (simp; omega)) _))))
      go_ret2
      exact ⟨rfl, d1⟩
  · have e0 := fp_no (a0_0 := a0_0) (xa0_1 := xa0_1) (a1 := a1) (xa2 := xa2) (xa3 := xa3) (fun h => hv ⟨h.1, h.2.1⟩)
    have e1 : r1_FlowProof a0_0 xa0_1 a1 xa2 xa3 = ncode a0_0 xa0_1 (start a0_0 a1) := ncode_and hv
    rw [e0, e1]
    have e2 := ncode_ne hv
    have e3 := ncode_eq0 hv
    clear e0 e1 hv hl0 hl2
    generalize hC : ncode a0_0 xa0_1 (start a0_0 a1) = C at *
    have EC := Lib.hid hC
    clear hC
    go_enter Try.func24, Try.ntmps24
    go_wp2_with (go_at_call 44; refine (l04Code_t _ a0_0 a0_1 la0_1 ca0_1 xa0_1 _ _ (by simp) ha0_1 ⟨by simp, by simp⟩ ((RA.out.below (by repeat (first | assumption | exact Below.refl _ _ | (refine Below.setCell ?_ (by first | omega | (simp; done) | (simp; omega)) _) | apply below_drewN | apply Below.drew | (refine Below.alloc ?_ (by first | omega | (simp; done) | (simp; omega)) _)))).mono (by first | omega | (simp; done) | (simp; omega)))).mono ?_; rintro e w1 ⟨rfl, b1⟩; rw [EC.out]; have s1 : w.heap.size < w1.heap.size := (by have := b1.size; simp at this; omega); obtain ⟨k1, f1⟩ := bcell b1; have z0 : w1.cell? ⟨w.heap.size, 0, none⟩ = some (.int .i64 a0_0) := (by rw [k1 _ _ (by first | omega | (simp; done) | (simp; omega))]; first | (simp; done) | go_simp); have zf0 : w1.frozen? ⟨w.heap.size, 0, none⟩ = false := (by rw [f1 _ _ (by first | omega | (simp; done) | (simp; omega))]; first | (simp; done) | go_simp); have z1 : w1.cell? ⟨w.heap.size, 1, none⟩ = some (.slice a0_1 la0_1 ca0_1) := (by rw [k1 _ _ (by first | omega | (simp; done) | (simp; omega))]; first | (simp; done) | go_simp); have zf1 : w1.frozen? ⟨w.heap.size, 1, none⟩ = false := (by rw [f1 _ _ (by first | omega | (simp; done) | (simp; omega))]; first | (simp; done) | go_simp); clear k1 f1; have d1 : Below w.heap.size w w1 := (by repeat (first | assumption | exact Below.refl _ _ | (refine Below.trans ?_ (b1.mono (by first | omega | (simp; done) | (simp; omega)))) | (refine Below.setCell ?_ (by first | omega | (simp; done) | (simp; omega)) _) | apply below_drewN | apply Below.drew | (refine Below.alloc ?_ (by first | omega | (simp; done) | (simp; omega)) _))))
    go_ret2
    exact ⟨rfl, d1⟩

set_option maxHeartbeats 6400000 in
theorem implFP_ok (a0_0 : Int) (a0_1 : Option Addr) (la2 ca0_1 : Nat) (xa0_1 : List RDitch) (a1 : Int) (a2 : Option Addr) (ca2 : Nat) (xa2 : List Int) (a3 : Option Addr) (la3 ca3 : Nat) (xa3 : List Int) (w : World) (ha0_1 : la2 ≤ 1048576) (ha3 : la3 ≤ 1048576)
    (RA : Hid (Rd_Ditch w w.heap.size a0_1 la2 xa0_1)) (RB : Hid (Rd w w.heap.size a2 la2 xa2)) (RC : Hid (Rd w w.heap.size a3 la3 xa3)) (VS : Hid (true = cs a0_0 a1)) (VD : Hid (true = decide (∀ j, j < xa3.length → stepOk 0 (wrap64 (a0_0 - 1)) xa3 j)))
    (PS : Hid (NetOk a0_0 xa0_1 → true = decide (start a0_0 a1 ∧ xa2.length = xa0_1.length ∧ Side a0_0 xa3))) (E : Hid (ncode a0_0 xa0_1 (start a0_0 a1 ∧ xa2.length = xa0_1.length ∧ Side a0_0 xa3) = 0)) (HV : Hid (NetOk a0_0 xa0_1)) (HS : Hid (start a0_0 a1)) :
    Calls Try.prog 25 #[.agg #[.int .i64 a0_0, .slice a0_1 la2 ca0_1], .int .i64 a1, .slice a2 la2 ca2, .slice a3 la3 ca3] w fun e w' => e = .returned (.tuple #[.bool (decide (a1 ∈ xa3 ∧ ¬ (0 : Int) ∈ xa3 ∧ leads a0_0 xa0_1 a1 xa2 ∧ outOf xa0_1 xa2 a1 xa0_1.length = cutOf xa0_1 xa3 xa0_1.length)), .int .i64 0]) ∧ Below w.heap.size w w' := by
          have h0 : ((la2 : Int) == (la2 : Int)) = true := by simp
          by_cases h1 : a1 ∈ xa3
          · have t1 : true = decide (a1 ∈ xa3) := (decide_eq_true h1).symm
            have T1 := Lib.hid t1
            have H1 := Lib.hid h1
            clear t1 h1
            by_cases hz : (0 : Int) ∈ xa3
            · have t0 : true = decide ((0 : Int) ∈ xa3) := (decide_eq_true hz).symm
              have T0 := Lib.hid t0
              have er : decide (a1 ∈ xa3 ∧ ¬ (0 : Int) ∈ xa3 ∧ leads a0_0 xa0_1 a1 xa2 ∧ outOf xa0_1 xa2 a1 xa0_1.length = cutOf xa0_1 xa3 xa0_1.length) = false := decide_eq_false (fun h => h.2.1 hz)
              rw [er]
              clear t0 hz er
              go_enter Try.func25, Try.ntmps25
              go_wp2_with fail
              refine (canStart_w _ _ _ _ _ _ true VS.out).mono ?_
              rintro e1 W1 ⟨rfl, b1⟩
              have s1 : w.heap.size < W1.heap.size := by have := b1.size; simp at this; omega
              have d1 : Below w.heap.size w W1 := (by repeat (first | assumption | exact Below.refl _ _ | (refine Below.trans ?_ (b1.mono (by first | omega | (simp; done) | (simp; omega)))) | (refine Below.setCell ?_ (by first | omega | (simp; done) | (simp; omega)) _) | apply below_drewN | apply Below.drew | (refine Below.alloc ?_ (by first | omega | (simp; done) | (simp; omega)) _)))
              obtain ⟨k1, f1⟩ := bcell b1
              have z0 : W1.cell? ⟨w.heap.size, 0, none⟩ = some (.int .i64 a0_0) := (by rw [k1 _ _ (by first | omega | (simp; done) | (simp; omega))]; first | (simp; done) | go_simp); have zf0 : W1.frozen? ⟨w.heap.size, 0, none⟩ = false := (by rw [f1 _ _ (by first | omega | (simp; done) | (simp; omega))]; first | (simp; done) | go_simp); have z1 : W1.cell? ⟨w.heap.size, 1, none⟩ = some (.slice a0_1 la2 ca0_1) := (by rw [k1 _ _ (by first | omega | (simp; done) | (simp; omega))]; first | (simp; done) | go_simp); have zf1 : W1.frozen? ⟨w.heap.size, 1, none⟩ = false := (by rw [f1 _ _ (by first | omega | (simp; done) | (simp; omega))]; first | (simp; done) | go_simp)
              clear k1 f1
              go_wp2_with fail
              refine (hasSide_t _ _ _ _ _ _ _ xa3 _ ha3 ((RC.out.below d1).mono (by first | omega | (simp; done) | (simp; omega))) true VD.out).mono ?_
              rintro e2 W2 ⟨rfl, b2⟩
              have s2 : w.heap.size < W2.heap.size := by have := b2.size; omega
              have d2 : Below w.heap.size w W2 := (by repeat (first | assumption | exact Below.refl _ _ | (refine Below.trans ?_ (b2.mono (by first | omega | (simp; done) | (simp; omega)))) | (refine Below.trans ?_ (d1.mono (by first | omega | (simp; done) | (simp; omega)))) | (refine Below.setCell ?_ (by first | omega | (simp; done) | (simp; omega)) _) | apply below_drewN | apply Below.drew | (refine Below.alloc ?_ (by first | omega | (simp; done) | (simp; omega)) _)))
              have y0 : W2.cell? ⟨w.heap.size, 0, none⟩ = _ := (b2.cell (p := ⟨w.heap.size, 0, none⟩) (show w.heap.size < _ from (by first | omega | (simp; done) | (simp; omega)))).trans z0; have yf0 : W2.frozen? ⟨w.heap.size, 0, none⟩ = _ := (b2.frozen (p := ⟨w.heap.size, 0, none⟩) (show w.heap.size < _ from (by first | omega | (simp; done) | (simp; omega)))).trans zf0; have y1 : W2.cell? ⟨w.heap.size, 1, none⟩ = _ := (b2.cell (p := ⟨w.heap.size, 1, none⟩) (show w.heap.size < _ from (by first | omega | (simp; done) | (simp; omega)))).trans z1; have yf1 : W2.frozen? ⟨w.heap.size, 1, none⟩ = _ := (b2.frozen (p := ⟨w.heap.size, 1, none⟩) (show w.heap.size < _ from (by first | omega | (simp; done) | (simp; omega)))).trans zf1
              go_wp2_with fail
              refine (netCode_t _ _ _ _ xa0_1 _ (start a0_0 a1 ∧ xa2.length = xa0_1.length ∧ Side a0_0 xa3) _ ha0_1 ((RA.out.below d2).mono (by first | omega | (simp; done) | (simp; omega))) PS.out).mono ?_
              rintro e9 W3 ⟨rfl, b3⟩
              rw [E.out]
              have s3 : w.heap.size < W3.heap.size := by have := b3.size; omega
              have d3 : Below w.heap.size w W3 := (by repeat (first | assumption | exact Below.refl _ _ | (refine Below.trans ?_ (b3.mono (by first | omega | (simp; done) | (simp; omega)))) | (refine Below.trans ?_ (d2.mono (by first | omega | (simp; done) | (simp; omega)))) | (refine Below.setCell ?_ (by first | omega | (simp; done) | (simp; omega)) _) | apply below_drewN | apply Below.drew | (refine Below.alloc ?_ (by first | omega | (simp; done) | (simp; omega)) _)))
              have x0 : W3.cell? ⟨w.heap.size, 0, none⟩ = _ := (b3.cell (p := ⟨w.heap.size, 0, none⟩) (show w.heap.size < _ from (by first | omega | (simp; done) | (simp; omega)))).trans y0; have xf0 : W3.frozen? ⟨w.heap.size, 0, none⟩ = _ := (b3.frozen (p := ⟨w.heap.size, 0, none⟩) (show w.heap.size < _ from (by first | omega | (simp; done) | (simp; omega)))).trans yf0; have x1 : W3.cell? ⟨w.heap.size, 1, none⟩ = _ := (b3.cell (p := ⟨w.heap.size, 1, none⟩) (show w.heap.size < _ from (by first | omega | (simp; done) | (simp; omega)))).trans y1; have xf1 : W3.frozen? ⟨w.heap.size, 1, none⟩ = _ := (b3.frozen (p := ⟨w.heap.size, 1, none⟩) (show w.heap.size < _ from (by first | omega | (simp; done) | (simp; omega)))).trans yf1
              go_wp2_with fail
              refine (slHas_t _ _ _ xa3 _ _ ha3 ((RC.out.below d3).mono (by first | omega | (simp; done) | (simp; omega))) true T1.out).mono ?_
              rintro e4 W4 ⟨rfl, rfl⟩
              go_wp2_with fail
              refine (slHas_t _ _ _ xa3 _ _ ha3 ((RC.out.below d3).mono (by first | omega | (simp; done) | (simp; omega))) true T0.out).mono ?_
              rintro e4 W4 ⟨rfl, rfl⟩
              go_wp2
              refine wp_region_held_drew (S := fun _ => True) (by kernel_rfl) trivial (fun hHeld => ?_)
              ((refine wpAnyH_take (i := 0) (oi := ⟨some 47, _, _, _, _, _⟩) (v := ?_) rfl (by kernel_rfl) (by kernel_rfl) (by kernel_rfl) (fun _ _ _ h => h) (Or.inl ⟨by rfl, ?_⟩) (by assumption) ?_; rotate_left 1; (focus (intro w hSw; (try dsimp only at hSw); go_simp <;> try (first | (with_reducible rfl) | (rw [if_neg (by omega)])))); try simp only [Act.put, List.setIfInBounds_toArray, List.set_cons_zero, List.set_cons_succ]); (refine wpAnyH_take (i := 1) (oi := ⟨some 48, _, _, _, _, _⟩) (v := ?_) rfl (by kernel_rfl) (by kernel_rfl) (by kernel_rfl) (fun _ _ _ h => h) (Or.inl ⟨by rfl, ?_⟩) (by assumption) ?_; rotate_left 1; (focus (intro w hSw; (try dsimp only at hSw); go_simp <;> try (first | (with_reducible rfl) | (rw [if_neg (by omega)])))); try simp only [Act.put, List.setIfInBounds_toArray, List.set_cons_zero, List.set_cons_succ]); (refine wpAnyH_take (i := 2) (oi := ⟨some 49, _, _, _, _, _⟩) (v := undef) rfl (by kernel_rfl) (by kernel_rfl) (by kernel_rfl) (fun _ _ _ h => h) (Or.inr ⟨by rfl, rfl⟩) (by assumption) ?_; try simp only [Act.put, List.setIfInBounds_toArray, List.set_cons_zero, List.set_cons_succ]); (refine wpAnyH_take (i := 3) (oi := ⟨some 50, _, _, _, _, _⟩) (v := undef) rfl (by kernel_rfl) (by kernel_rfl) (by kernel_rfl) (fun _ _ _ h => h) (Or.inr ⟨by rfl, rfl⟩) (by assumption) ?_; try simp only [Act.put, List.setIfInBounds_toArray, List.set_cons_zero, List.set_cons_succ]); (refine wpAnyH_take (i := 4) (oi := ⟨some 51, _, _, _, _, _⟩) (v := undef) rfl (by kernel_rfl) (by kernel_rfl) (by kernel_rfl) (fun _ _ _ h => h) (Or.inr ⟨by rfl, rfl⟩) (by assumption) ?_; try simp only [Act.put, List.setIfInBounds_toArray, List.set_cons_zero, List.set_cons_succ]); (refine wpAnyH_take (i := 5) (oi := ⟨some 52, _, _, _, _, _⟩) (v := ?_) rfl (by kernel_rfl) (by kernel_rfl) (by kernel_rfl) (fun _ _ _ h => h) (Or.inl ⟨by rfl, ?_⟩) (by assumption) ?_; rotate_left 1; (focus (intro w hSw; (try dsimp only at hSw); go_simp <;> try (first | (with_reducible rfl) | (rw [if_neg (by omega)])))); try simp only [Act.put, List.setIfInBounds_toArray, List.set_cons_zero, List.set_cons_succ]); (refine wpAnyH_take (i := 6) (oi := ⟨some 53, _, _, _, _, _⟩) (v := ?_) rfl (by kernel_rfl) (by kernel_rfl) (by kernel_rfl) (fun _ _ _ h => h) (Or.inl ⟨by rfl, ?_⟩) (by assumption) ?_; rotate_left 1; (focus (intro w hSw; (try dsimp only at hSw); go_simp <;> try (first | (with_reducible rfl) | (rw [if_neg (by omega)])))); try simp only [Act.put, List.setIfInBounds_toArray, List.set_cons_zero, List.set_cons_succ]); (refine wpAnyH_take (i := 7) (oi := ⟨some 54, _, _, _, _, _⟩) (v := undef) rfl (by kernel_rfl) (by kernel_rfl) (by kernel_rfl) (fun _ _ _ h => h) (Or.inr ⟨by rfl, rfl⟩) (by assumption) ?_; try simp only [Act.put, List.setIfInBounds_toArray, List.set_cons_zero, List.set_cons_succ]); (refine wpAnyH_take (i := 8) (oi := ⟨some 55, _, _, _, _, _⟩) (v := undef) rfl (by kernel_rfl) (by kernel_rfl) (by kernel_rfl) (fun _ _ _ h => h) (Or.inr ⟨by rfl, rfl⟩) (by assumption) ?_; try simp only [Act.put, List.setIfInBounds_toArray, List.set_cons_zero, List.set_cons_succ]); (refine wpAnyH_take (i := 9) (oi := ⟨some 56, _, _, _, _, _⟩) (v := undef) rfl (by kernel_rfl) (by kernel_rfl) (by kernel_rfl) (fun _ _ _ h => h) (Or.inr ⟨by rfl, rfl⟩) (by assumption) ?_; try simp only [Act.put, List.setIfInBounds_toArray, List.set_cons_zero, List.set_cons_succ]); (refine wpAnyH_take (i := 10) (oi := ⟨some 57, _, _, _, _, _⟩) (v := undef) rfl (by kernel_rfl) (by kernel_rfl) (by kernel_rfl) (fun _ _ _ h => h) (Or.inr ⟨by rfl, rfl⟩) (by assumption) ?_; try simp only [Act.put, List.setIfInBounds_toArray, List.set_cons_zero, List.set_cons_succ]); (refine wpAnyH_take (i := 11) (oi := ⟨some 58, _, _, _, _, _⟩) (v := undef) rfl (by kernel_rfl) (by kernel_rfl) (by kernel_rfl) (fun _ _ _ h => h) (Or.inr ⟨by rfl, rfl⟩) (by assumption) ?_; try simp only [Act.put, List.setIfInBounds_toArray, List.set_cons_zero, List.set_cons_succ]); (refine wpAnyH_take (i := 12) (oi := ⟨some 59, _, _, _, _, _⟩) (v := undef) rfl (by kernel_rfl) (by kernel_rfl) (by kernel_rfl) (fun _ _ _ h => h) (Or.inr ⟨by rfl, rfl⟩) (by assumption) ?_; try simp only [Act.put, List.setIfInBounds_toArray, List.set_cons_zero, List.set_cons_succ]); (refine wpAnyH_take (i := 13) (oi := ⟨some 60, _, _, _, _, _⟩) (v := undef) rfl (by kernel_rfl) (by kernel_rfl) (by kernel_rfl) (fun _ _ _ h => h) (Or.inr ⟨by rfl, rfl⟩) (by assumption) ?_; try simp only [Act.put, List.setIfInBounds_toArray, List.set_cons_zero, List.set_cons_succ]); (refine wpAnyH_take (i := 14) (oi := ⟨some 61, _, _, _, _, _⟩) (v := ?_) rfl (by kernel_rfl) (by kernel_rfl) (by kernel_rfl) (fun _ _ _ h => h) (Or.inl ⟨by rfl, ?_⟩) (by assumption) ?_; rotate_left 1; (focus (intro w hSw; (try dsimp only at hSw); go_simp <;> try (first | (with_reducible rfl) | (rw [if_neg (by omega)])))); try simp only [Act.put, List.setIfInBounds_toArray, List.set_cons_zero, List.set_cons_succ]); (refine wpAnyH_take (i := 15) (oi := ⟨some 8, _, _, _, _, _⟩) (v := ?_) rfl (by kernel_rfl) (by kernel_rfl) (by kernel_rfl) (fun _ _ _ h => h) (Or.inl ⟨by rfl, ?_⟩) (by assumption) ?_; rotate_left 1; (focus (intro w hSw; (try dsimp only at hSw); go_simp <;> try (first | (with_reducible rfl) | (rw [if_neg (by omega)])))); try simp only [Act.put, List.setIfInBounds_toArray, List.set_cons_zero, List.set_cons_succ]); (refine wpAnyH_take (i := 16) (oi := ⟨some 9, _, _, _, _, _⟩) (v := ?_) rfl (by kernel_rfl) (by kernel_rfl) (by kernel_rfl) (fun _ _ _ h => h) (Or.inl ⟨by rfl, ?_⟩) (by assumption) ?_; rotate_left 1; (focus (intro w hSw; (try dsimp only at hSw); go_simp <;> try (first | (with_reducible rfl) | (rw [if_neg (by omega)])))); try simp only [Act.put, List.setIfInBounds_toArray, List.set_cons_zero, List.set_cons_succ]))
              refine wpAnyH_done (by kernel_rfl) ?_ _
              go_wp2
              go_ret2
              exact ⟨rfl, (by repeat (first | assumption | exact Below.refl _ _ | (refine Below.trans ?_ (d3.mono (by first | omega | (simp; done) | (simp; omega)))) | (refine Below.setCell ?_ (by first | omega | (simp; done) | (simp; omega)) _) | apply below_drewN | apply Below.drew | (refine Below.alloc ?_ (by first | omega | (simp; done) | (simp; omega)) _)))⟩
            · have t0 : false = decide ((0 : Int) ∈ xa3) := (decide_eq_false hz).symm
              have T0 := Lib.hid t0
              have HZ := Lib.hid hz
              clear t0 hz
              by_cases hL : leads a0_0 xa0_1 a1 xa2
              · have hld : true = decide (leads a0_0 xa0_1 a1 xa2) := (decide_eq_true hL).symm
                have LD := Lib.hid hld
                have er : decide (a1 ∈ xa3 ∧ ¬ (0 : Int) ∈ xa3 ∧ leads a0_0 xa0_1 a1 xa2 ∧ outOf xa0_1 xa2 a1 xa0_1.length = cutOf xa0_1 xa3 xa0_1.length) = (outOf xa0_1 xa2 a1 xa0_1.length == cutOf xa0_1 xa3 xa0_1.length) := by
                  by_cases hq : outOf xa0_1 xa2 a1 xa0_1.length = cutOf xa0_1 xa3 xa0_1.length
                  · rw [decide_eq_true ⟨H1.out, HZ.out, hL, hq⟩]
                    simp [hq]
                  · rw [decide_eq_false (fun h => hq h.2.2.2)]
                    simp [hq]
                rw [er]
                have HFT := Lib.hid hL.1
                clear hld hL er
                go_enter Try.func25, Try.ntmps25
                go_wp2_with fail
                refine (canStart_w _ _ _ _ _ _ true VS.out).mono ?_
                rintro e1 W1 ⟨rfl, b1⟩
                have s1 : w.heap.size < W1.heap.size := by have := b1.size; simp at this; omega
                have d1 : Below w.heap.size w W1 := (by repeat (first | assumption | exact Below.refl _ _ | (refine Below.trans ?_ (b1.mono (by first | omega | (simp; done) | (simp; omega)))) | (refine Below.setCell ?_ (by first | omega | (simp; done) | (simp; omega)) _) | apply below_drewN | apply Below.drew | (refine Below.alloc ?_ (by first | omega | (simp; done) | (simp; omega)) _)))
                obtain ⟨k1, f1⟩ := bcell b1
                have z0 : W1.cell? ⟨w.heap.size, 0, none⟩ = some (.int .i64 a0_0) := (by rw [k1 _ _ (by first | omega | (simp; done) | (simp; omega))]; first | (simp; done) | go_simp); have zf0 : W1.frozen? ⟨w.heap.size, 0, none⟩ = false := (by rw [f1 _ _ (by first | omega | (simp; done) | (simp; omega))]; first | (simp; done) | go_simp); have z1 : W1.cell? ⟨w.heap.size, 1, none⟩ = some (.slice a0_1 la2 ca0_1) := (by rw [k1 _ _ (by first | omega | (simp; done) | (simp; omega))]; first | (simp; done) | go_simp); have zf1 : W1.frozen? ⟨w.heap.size, 1, none⟩ = false := (by rw [f1 _ _ (by first | omega | (simp; done) | (simp; omega))]; first | (simp; done) | go_simp)
                clear k1 f1
                go_wp2_with fail
                refine (hasSide_t _ _ _ _ _ _ _ xa3 _ ha3 ((RC.out.below d1).mono (by first | omega | (simp; done) | (simp; omega))) true VD.out).mono ?_
                rintro e2 W2 ⟨rfl, b2⟩
                have s2 : w.heap.size < W2.heap.size := by have := b2.size; omega
                have d2 : Below w.heap.size w W2 := (by repeat (first | assumption | exact Below.refl _ _ | (refine Below.trans ?_ (b2.mono (by first | omega | (simp; done) | (simp; omega)))) | (refine Below.trans ?_ (d1.mono (by first | omega | (simp; done) | (simp; omega)))) | (refine Below.setCell ?_ (by first | omega | (simp; done) | (simp; omega)) _) | apply below_drewN | apply Below.drew | (refine Below.alloc ?_ (by first | omega | (simp; done) | (simp; omega)) _)))
                have y0 : W2.cell? ⟨w.heap.size, 0, none⟩ = _ := (b2.cell (p := ⟨w.heap.size, 0, none⟩) (show w.heap.size < _ from (by first | omega | (simp; done) | (simp; omega)))).trans z0; have yf0 : W2.frozen? ⟨w.heap.size, 0, none⟩ = _ := (b2.frozen (p := ⟨w.heap.size, 0, none⟩) (show w.heap.size < _ from (by first | omega | (simp; done) | (simp; omega)))).trans zf0; have y1 : W2.cell? ⟨w.heap.size, 1, none⟩ = _ := (b2.cell (p := ⟨w.heap.size, 1, none⟩) (show w.heap.size < _ from (by first | omega | (simp; done) | (simp; omega)))).trans z1; have yf1 : W2.frozen? ⟨w.heap.size, 1, none⟩ = _ := (b2.frozen (p := ⟨w.heap.size, 1, none⟩) (show w.heap.size < _ from (by first | omega | (simp; done) | (simp; omega)))).trans zf1
                go_wp2_with fail
                refine (netCode_t _ _ _ _ xa0_1 _ (start a0_0 a1 ∧ xa2.length = xa0_1.length ∧ Side a0_0 xa3) _ ha0_1 ((RA.out.below d2).mono (by first | omega | (simp; done) | (simp; omega))) PS.out).mono ?_
                rintro e9 W3 ⟨rfl, b3⟩
                rw [E.out]
                have s3 : w.heap.size < W3.heap.size := by have := b3.size; omega
                have d3 : Below w.heap.size w W3 := (by repeat (first | assumption | exact Below.refl _ _ | (refine Below.trans ?_ (b3.mono (by first | omega | (simp; done) | (simp; omega)))) | (refine Below.trans ?_ (d2.mono (by first | omega | (simp; done) | (simp; omega)))) | (refine Below.setCell ?_ (by first | omega | (simp; done) | (simp; omega)) _) | apply below_drewN | apply Below.drew | (refine Below.alloc ?_ (by first | omega | (simp; done) | (simp; omega)) _)))
                have x0 : W3.cell? ⟨w.heap.size, 0, none⟩ = _ := (b3.cell (p := ⟨w.heap.size, 0, none⟩) (show w.heap.size < _ from (by first | omega | (simp; done) | (simp; omega)))).trans y0; have xf0 : W3.frozen? ⟨w.heap.size, 0, none⟩ = _ := (b3.frozen (p := ⟨w.heap.size, 0, none⟩) (show w.heap.size < _ from (by first | omega | (simp; done) | (simp; omega)))).trans yf0; have x1 : W3.cell? ⟨w.heap.size, 1, none⟩ = _ := (b3.cell (p := ⟨w.heap.size, 1, none⟩) (show w.heap.size < _ from (by first | omega | (simp; done) | (simp; omega)))).trans y1; have xf1 : W3.frozen? ⟨w.heap.size, 1, none⟩ = _ := (b3.frozen (p := ⟨w.heap.size, 1, none⟩) (show w.heap.size < _ from (by first | omega | (simp; done) | (simp; omega)))).trans yf1
                go_wp2_with fail
                refine (slHas_t _ _ _ xa3 _ _ ha3 ((RC.out.below d3).mono (by first | omega | (simp; done) | (simp; omega))) true T1.out).mono ?_
                rintro e4 W4 ⟨rfl, rfl⟩
                go_wp2_with fail
                refine (slHas_t _ _ _ xa3 _ _ ha3 ((RC.out.below d3).mono (by first | omega | (simp; done) | (simp; omega))) false T0.out).mono ?_
                rintro e4 W4 ⟨rfl, rfl⟩
                go_wp2
                refine wp_region_held_drew (S := (fun w' => w'.cell? ⟨w.heap.size, 0, none⟩ = some (.int .i64 a0_0) ∧ w'.cell? ⟨w.heap.size, 1, none⟩ = some (.slice a0_1 la2 ca0_1) ∧ w'.cell? ⟨W3.heap.size, 0, none⟩ = some (.int .i64 a0_0) ∧ w'.cell? ⟨W3.heap.size, 1, none⟩ = some (.slice a0_1 la2 ca0_1) ∧ w'.cell? ⟨W3.heap.size, 2, none⟩ = some (.slice a2 la2 ca2))) (by kernel_rfl) ⟨(World.cell?_alloc_lt _ _ _ s3).trans x0, (World.cell?_alloc_lt _ _ _ s3).trans x1, by simp, by simp, by simp⟩ (fun hHeld => ?_)
                ((refine wpAnyH_take (i := 0) (oi := ⟨some 47, _, _, _, _, _⟩) (v := ?_) rfl (by kernel_rfl) (by kernel_rfl) (by kernel_rfl) (fun _ _ _ h => h) (Or.inl ⟨by rfl, ?_⟩) (by assumption) ?_; rotate_left 1; (focus (intro w hSw; (try dsimp only at hSw); go_simp <;> try (first | (with_reducible rfl) | (rw [if_neg (by omega)])))); try simp only [Act.put, List.setIfInBounds_toArray, List.set_cons_zero, List.set_cons_succ]); (refine wpAnyH_take (i := 1) (oi := ⟨some 48, _, _, _, _, _⟩) (v := ?_) rfl (by kernel_rfl) (by kernel_rfl) (by kernel_rfl) (fun _ _ _ h => h) (Or.inl ⟨by rfl, ?_⟩) (by assumption) ?_; rotate_left 1; (focus (intro w hSw; (try dsimp only at hSw); go_simp <;> try (first | (with_reducible rfl) | (rw [if_neg (by omega)])))); try simp only [Act.put, List.setIfInBounds_toArray, List.set_cons_zero, List.set_cons_succ]); (refine wpAnyH_take (i := 2) (oi := ⟨some 49, _, _, _, _, _⟩) (v := ?_) rfl (by kernel_rfl) (by kernel_rfl) (by kernel_rfl) (fun _ _ _ h => h) (Or.inl ⟨by rfl, ?_⟩) (by assumption) ?_; rotate_left 1; (focus (intro w hSw; (try dsimp only at hSw); go_simp <;> try (first | (with_reducible rfl) | (rw [if_neg (by omega)])))); try simp only [Act.put, List.setIfInBounds_toArray, List.set_cons_zero, List.set_cons_succ]); (refine wpAnyH_take (i := 3) (oi := ⟨some 50, _, _, _, _, _⟩) (v := ?_) rfl (by kernel_rfl) (by kernel_rfl) (by kernel_rfl) (fun _ _ _ h => h) (Or.inl ⟨by rfl, ?_⟩) (by assumption) ?_; rotate_left 1; (focus (intro w hSw; (try dsimp only at hSw); go_simp <;> try (first | (with_reducible rfl) | (rw [if_neg (by omega)])))); try simp only [Act.put, List.setIfInBounds_toArray, List.set_cons_zero, List.set_cons_succ]))
                (refine wpAnyH_ready (rs := [4]) (by kernel_rfl) (by simp) ?_; refine AllReadyH.cons rfl (fun K hK => ?_) AllReadyH.nil; go_simp)
                refine (leadsFrom_t _ _ _ _ xa0_1 _ _ xa2 _ _ ha0_1 ((RA.out.below (by repeat (first | assumption | exact Below.refl _ _ | (refine Below.trans ?_ (d3.mono (by first | omega | (simp; done) | (simp; omega)))) | (refine Below.setCell ?_ (by first | omega | (simp; done) | (simp; omega)) _) | apply below_drewN | apply Below.drew | (refine Below.alloc ?_ (by first | omega | (simp; done) | (simp; omega)) _)))).mono (by first | omega | (simp; done) | (simp; omega))) ((RB.out.below (by repeat (first | assumption | exact Below.refl _ _ | (refine Below.trans ?_ (d3.mono (by first | omega | (simp; done) | (simp; omega)))) | (refine Below.setCell ?_ (by first | omega | (simp; done) | (simp; omega)) _) | apply below_drewN | apply Below.drew | (refine Below.alloc ?_ (by first | omega | (simp; done) | (simp; omega)) _)))).mono (by first | omega | (simp; done) | (simp; omega))) HV.out HS.out true LD.out).mono ?_
                rintro e5 W5 ⟨rfl, b5⟩
                have d5 : Below w.heap.size w W5 := (by repeat (first | assumption | exact Below.refl _ _ | (refine Below.trans ?_ (b5.mono (by first | omega | (simp; done) | (simp; omega)))) | (refine Below.trans ?_ (d3.mono (by first | omega | (simp; done) | (simp; omega)))) | (refine Below.setCell ?_ (by first | omega | (simp; done) | (simp; omega)) _) | apply below_drewN | apply Below.drew | (refine Below.alloc ?_ (by first | omega | (simp; done) | (simp; omega)) _)))
                have n5 : w.heap.size < W5.heap.size := by have := b5.size; simp at this; omega
                have n5' : W3.heap.size < W5.heap.size := by have := b5.size; simp at this; omega
                obtain ⟨q0, q1, q2, q3, q4⟩ := hHeld
                have r0 := (b5.cell (p := ⟨w.heap.size, 0, none⟩) (by first | omega | (simp; done) | (simp; omega))).trans q0
                have r1 := (b5.cell (p := ⟨w.heap.size, 1, none⟩) (by first | omega | (simp; done) | (simp; omega))).trans q1
                have r2 := (b5.cell (p := ⟨W3.heap.size, 0, none⟩) (by simp)).trans q2
                have r3 := (b5.cell (p := ⟨W3.heap.size, 1, none⟩) (by simp)).trans q3
                have r4 := (b5.cell (p := ⟨W3.heap.size, 2, none⟩) (by simp)).trans q4
                clear q0 q1 q2 q3 q4
                (refine hK.out _ _ ?_ (fun hHeld => ?_))
                · exact ⟨r0, r1, r2, r3, r4⟩
                clear r0 r1 r2 r3 r4
                ((refine wpAnyH_take (i := 5) (oi := ⟨some 52, _, _, _, _, _⟩) (v := ?_) rfl (by kernel_rfl) (by kernel_rfl) (by kernel_rfl) (fun _ _ _ h => h) (Or.inl ⟨by rfl, ?_⟩) (by assumption) ?_; rotate_left 1; (focus (intro w hSw; (try dsimp only at hSw); go_simp <;> try (first | (with_reducible rfl) | (rw [if_neg (by omega)])))); try simp only [Act.put, List.setIfInBounds_toArray, List.set_cons_zero, List.set_cons_succ]); (refine wpAnyH_take (i := 6) (oi := ⟨some 53, _, _, _, _, _⟩) (v := ?_) rfl (by kernel_rfl) (by kernel_rfl) (by kernel_rfl) (fun _ _ _ h => h) (Or.inl ⟨by rfl, ?_⟩) (by assumption) ?_; rotate_left 1; (focus (intro w hSw; (try dsimp only at hSw); go_simp <;> try (first | (with_reducible rfl) | (rw [if_neg (by omega)])))); try simp only [Act.put, List.setIfInBounds_toArray, List.set_cons_zero, List.set_cons_succ]); (refine wpAnyH_take (i := 7) (oi := ⟨some 54, _, _, _, _, _⟩) (v := ?_) rfl (by kernel_rfl) (by kernel_rfl) (by kernel_rfl) (fun _ _ _ h => h) (Or.inl ⟨by rfl, ?_⟩) (by assumption) ?_; rotate_left 1; (focus (intro w hSw; (try dsimp only at hSw); go_simp <;> try (first | (with_reducible rfl) | (rw [if_neg (by omega)])))); try simp only [Act.put, List.setIfInBounds_toArray, List.set_cons_zero, List.set_cons_succ]); (refine wpAnyH_take (i := 8) (oi := ⟨some 55, _, _, _, _, _⟩) (v := ?_) rfl (by kernel_rfl) (by kernel_rfl) (by kernel_rfl) (fun _ _ _ h => h) (Or.inl ⟨by rfl, ?_⟩) (by assumption) ?_; rotate_left 1; (focus (intro w hSw; (try dsimp only at hSw); go_simp <;> try (first | (with_reducible rfl) | (rw [if_neg (by omega)])))); try simp only [Act.put, List.setIfInBounds_toArray, List.set_cons_zero, List.set_cons_succ]); (refine wpAnyH_take (i := 10) (oi := ⟨some 57, _, _, _, _, _⟩) (v := ?_) rfl (by kernel_rfl) (by kernel_rfl) (by kernel_rfl) (fun _ _ _ h => h) (Or.inl ⟨by rfl, ?_⟩) (by assumption) ?_; rotate_left 1; (focus (intro w hSw; (try dsimp only at hSw); go_simp <;> try (first | (with_reducible rfl) | (rw [if_neg (by omega)])))); try simp only [Act.put, List.setIfInBounds_toArray, List.set_cons_zero, List.set_cons_succ]); (refine wpAnyH_take (i := 11) (oi := ⟨some 58, _, _, _, _, _⟩) (v := ?_) rfl (by kernel_rfl) (by kernel_rfl) (by kernel_rfl) (fun _ _ _ h => h) (Or.inl ⟨by rfl, ?_⟩) (by assumption) ?_; rotate_left 1; (focus (intro w hSw; (try dsimp only at hSw); go_simp <;> try (first | (with_reducible rfl) | (rw [if_neg (by omega)])))); try simp only [Act.put, List.setIfInBounds_toArray, List.set_cons_zero, List.set_cons_succ]))
                (refine wpAnyH_ready (rs := [9]) (by kernel_rfl) (by simp) ?_; refine AllReadyH.cons rfl (fun K hK => ?_) AllReadyH.nil; go_simp)
                refine (sum_t _ _ _ _ xa0_1 _ _ xa2 _ _ ha0_1 ((RA.out.below d5).mono (by first | omega | (simp; done) | (simp; omega))) ((RB.out.below d5).mono (by first | omega | (simp; done) | (simp; omega))) HV.out HFT.out).mono ?_
                rintro e6 W6 ⟨rfl, b6⟩
                have d6 : Below w.heap.size w W6 := Below.trans d5 (b6.mono (by omega))
                have n6 : w.heap.size < W6.heap.size := by have := b6.size; omega
                have n6' : W3.heap.size < W6.heap.size := by have := b6.size; omega
                obtain ⟨q0, q1, q2, q3, q4⟩ := hHeld
                have r0 := (b6.cell (p := ⟨w.heap.size, 0, none⟩) n5).trans q0
                have r1 := (b6.cell (p := ⟨w.heap.size, 1, none⟩) n5).trans q1
                have r2 := (b6.cell (p := ⟨W3.heap.size, 0, none⟩) n5').trans q2
                have r3 := (b6.cell (p := ⟨W3.heap.size, 1, none⟩) n5').trans q3
                have r4 := (b6.cell (p := ⟨W3.heap.size, 2, none⟩) n5').trans q4
                clear q0 q1 q2 q3 q4
                (refine hK.out _ _ ?_ (fun hHeld => ?_))
                · exact ⟨r0, r1, r2, r3, r4⟩
                clear r0 r1 r2 r3 r4
                (refine wpAnyH_ready (rs := [12]) (by kernel_rfl) (by simp) ?_; refine AllReadyH.cons rfl (fun K hK => ?_) AllReadyH.nil; go_simp)
                refine (cut_t _ _ _ _ xa0_1 _ _ _ xa3 _ ha0_1 ha3 ((RA.out.below d6).mono (by first | omega | (simp; done) | (simp; omega))) ((RC.out.below d6).mono (by first | omega | (simp; done) | (simp; omega))) HV.out).mono ?_
                rintro e7 W7 ⟨rfl, b7⟩
                have d7 : Below w.heap.size w W7 := Below.trans d6 (b7.mono (by omega))
                have n7 : w.heap.size < W7.heap.size := by have := b7.size; omega
                have n7' : W3.heap.size < W7.heap.size := by have := b7.size; omega
                obtain ⟨q0, q1, q2, q3, q4⟩ := hHeld
                have r0 := (b7.cell (p := ⟨w.heap.size, 0, none⟩) n6).trans q0
                have r1 := (b7.cell (p := ⟨w.heap.size, 1, none⟩) n6).trans q1
                have r2 := (b7.cell (p := ⟨W3.heap.size, 0, none⟩) n6').trans q2
                have r3 := (b7.cell (p := ⟨W3.heap.size, 1, none⟩) n6').trans q3
                have r4 := (b7.cell (p := ⟨W3.heap.size, 2, none⟩) n6').trans q4
                clear q0 q1 q2 q3 q4
                (refine hK.out _ _ ?_ (fun hHeld => ?_))
                · exact ⟨r0, r1, r2, r3, r4⟩
                clear r0 r1 r2 r3 r4
                ((refine wpAnyH_take (i := 13) (oi := ⟨some 60, _, _, _, _, _⟩) (v := ?_) rfl (by kernel_rfl) (by kernel_rfl) (by kernel_rfl) (fun _ _ _ h => h) (Or.inl ⟨by rfl, ?_⟩) (by assumption) ?_; rotate_left 1; (focus (intro w hSw; (try dsimp only at hSw); go_simp <;> try (first | (with_reducible rfl) | (rw [if_neg (by omega)])))); try simp only [Act.put, List.setIfInBounds_toArray, List.set_cons_zero, List.set_cons_succ]); (refine wpAnyH_take (i := 14) (oi := ⟨some 61, _, _, _, _, _⟩) (v := ?_) rfl (by kernel_rfl) (by kernel_rfl) (by kernel_rfl) (fun _ _ _ h => h) (Or.inl ⟨by rfl, ?_⟩) (by assumption) ?_; rotate_left 1; (focus (intro w hSw; (try dsimp only at hSw); go_simp <;> try (first | (with_reducible rfl) | (rw [if_neg (by omega)])))); try simp only [Act.put, List.setIfInBounds_toArray, List.set_cons_zero, List.set_cons_succ]); (refine wpAnyH_take (i := 15) (oi := ⟨some 8, _, _, _, _, _⟩) (v := ?_) rfl (by kernel_rfl) (by kernel_rfl) (by kernel_rfl) (fun _ _ _ h => h) (Or.inl ⟨by rfl, ?_⟩) (by assumption) ?_; rotate_left 1; (focus (intro w hSw; (try dsimp only at hSw); go_simp <;> try (first | (with_reducible rfl) | (rw [if_neg (by omega)])))); try simp only [Act.put, List.setIfInBounds_toArray, List.set_cons_zero, List.set_cons_succ]); (refine wpAnyH_take (i := 16) (oi := ⟨some 9, _, _, _, _, _⟩) (v := ?_) rfl (by kernel_rfl) (by kernel_rfl) (by kernel_rfl) (fun _ _ _ h => h) (Or.inl ⟨by rfl, ?_⟩) (by assumption) ?_; rotate_left 1; (focus (intro w hSw; (try dsimp only at hSw); go_simp <;> try (first | (with_reducible rfl) | (rw [if_neg (by omega)])))); try simp only [Act.put, List.setIfInBounds_toArray, List.set_cons_zero, List.set_cons_succ]))
                refine wpAnyH_done (by kernel_rfl) ?_ _
                go_wp2
                go_ret2
                exact ⟨rfl, d7⟩
              · have hld : false = decide (leads a0_0 xa0_1 a1 xa2) := (decide_eq_false hL).symm
                have LD := Lib.hid hld
                have er : decide (a1 ∈ xa3 ∧ ¬ (0 : Int) ∈ xa3 ∧ leads a0_0 xa0_1 a1 xa2 ∧ outOf xa0_1 xa2 a1 xa0_1.length = cutOf xa0_1 xa3 xa0_1.length) = false := decide_eq_false (fun h => hL h.2.2.1)
                rw [er]
                clear hld hL er
                go_enter Try.func25, Try.ntmps25
                go_wp2_with fail
                refine (canStart_w _ _ _ _ _ _ true VS.out).mono ?_
                rintro e1 W1 ⟨rfl, b1⟩
                have s1 : w.heap.size < W1.heap.size := by have := b1.size; simp at this; omega
                have d1 : Below w.heap.size w W1 := (by repeat (first | assumption | exact Below.refl _ _ | (refine Below.trans ?_ (b1.mono (by first | omega | (simp; done) | (simp; omega)))) | (refine Below.setCell ?_ (by first | omega | (simp; done) | (simp; omega)) _) | apply below_drewN | apply Below.drew | (refine Below.alloc ?_ (by first | omega | (simp; done) | (simp; omega)) _)))
                obtain ⟨k1, f1⟩ := bcell b1
                have z0 : W1.cell? ⟨w.heap.size, 0, none⟩ = some (.int .i64 a0_0) := (by rw [k1 _ _ (by first | omega | (simp; done) | (simp; omega))]; first | (simp; done) | go_simp); have zf0 : W1.frozen? ⟨w.heap.size, 0, none⟩ = false := (by rw [f1 _ _ (by first | omega | (simp; done) | (simp; omega))]; first | (simp; done) | go_simp); have z1 : W1.cell? ⟨w.heap.size, 1, none⟩ = some (.slice a0_1 la2 ca0_1) := (by rw [k1 _ _ (by first | omega | (simp; done) | (simp; omega))]; first | (simp; done) | go_simp); have zf1 : W1.frozen? ⟨w.heap.size, 1, none⟩ = false := (by rw [f1 _ _ (by first | omega | (simp; done) | (simp; omega))]; first | (simp; done) | go_simp)
                clear k1 f1
                go_wp2_with fail
                refine (hasSide_t _ _ _ _ _ _ _ xa3 _ ha3 ((RC.out.below d1).mono (by first | omega | (simp; done) | (simp; omega))) true VD.out).mono ?_
                rintro e2 W2 ⟨rfl, b2⟩
                have s2 : w.heap.size < W2.heap.size := by have := b2.size; omega
                have d2 : Below w.heap.size w W2 := (by repeat (first | assumption | exact Below.refl _ _ | (refine Below.trans ?_ (b2.mono (by first | omega | (simp; done) | (simp; omega)))) | (refine Below.trans ?_ (d1.mono (by first | omega | (simp; done) | (simp; omega)))) | (refine Below.setCell ?_ (by first | omega | (simp; done) | (simp; omega)) _) | apply below_drewN | apply Below.drew | (refine Below.alloc ?_ (by first | omega | (simp; done) | (simp; omega)) _)))
                have y0 : W2.cell? ⟨w.heap.size, 0, none⟩ = _ := (b2.cell (p := ⟨w.heap.size, 0, none⟩) (show w.heap.size < _ from (by first | omega | (simp; done) | (simp; omega)))).trans z0; have yf0 : W2.frozen? ⟨w.heap.size, 0, none⟩ = _ := (b2.frozen (p := ⟨w.heap.size, 0, none⟩) (show w.heap.size < _ from (by first | omega | (simp; done) | (simp; omega)))).trans zf0; have y1 : W2.cell? ⟨w.heap.size, 1, none⟩ = _ := (b2.cell (p := ⟨w.heap.size, 1, none⟩) (show w.heap.size < _ from (by first | omega | (simp; done) | (simp; omega)))).trans z1; have yf1 : W2.frozen? ⟨w.heap.size, 1, none⟩ = _ := (b2.frozen (p := ⟨w.heap.size, 1, none⟩) (show w.heap.size < _ from (by first | omega | (simp; done) | (simp; omega)))).trans zf1
                go_wp2_with fail
                refine (netCode_t _ _ _ _ xa0_1 _ (start a0_0 a1 ∧ xa2.length = xa0_1.length ∧ Side a0_0 xa3) _ ha0_1 ((RA.out.below d2).mono (by first | omega | (simp; done) | (simp; omega))) PS.out).mono ?_
                rintro e9 W3 ⟨rfl, b3⟩
                rw [E.out]
                have s3 : w.heap.size < W3.heap.size := by have := b3.size; omega
                have d3 : Below w.heap.size w W3 := (by repeat (first | assumption | exact Below.refl _ _ | (refine Below.trans ?_ (b3.mono (by first | omega | (simp; done) | (simp; omega)))) | (refine Below.trans ?_ (d2.mono (by first | omega | (simp; done) | (simp; omega)))) | (refine Below.setCell ?_ (by first | omega | (simp; done) | (simp; omega)) _) | apply below_drewN | apply Below.drew | (refine Below.alloc ?_ (by first | omega | (simp; done) | (simp; omega)) _)))
                have x0 : W3.cell? ⟨w.heap.size, 0, none⟩ = _ := (b3.cell (p := ⟨w.heap.size, 0, none⟩) (show w.heap.size < _ from (by first | omega | (simp; done) | (simp; omega)))).trans y0; have xf0 : W3.frozen? ⟨w.heap.size, 0, none⟩ = _ := (b3.frozen (p := ⟨w.heap.size, 0, none⟩) (show w.heap.size < _ from (by first | omega | (simp; done) | (simp; omega)))).trans yf0; have x1 : W3.cell? ⟨w.heap.size, 1, none⟩ = _ := (b3.cell (p := ⟨w.heap.size, 1, none⟩) (show w.heap.size < _ from (by first | omega | (simp; done) | (simp; omega)))).trans y1; have xf1 : W3.frozen? ⟨w.heap.size, 1, none⟩ = _ := (b3.frozen (p := ⟨w.heap.size, 1, none⟩) (show w.heap.size < _ from (by first | omega | (simp; done) | (simp; omega)))).trans yf1
                go_wp2_with fail
                refine (slHas_t _ _ _ xa3 _ _ ha3 ((RC.out.below d3).mono (by first | omega | (simp; done) | (simp; omega))) true T1.out).mono ?_
                rintro e4 W4 ⟨rfl, rfl⟩
                go_wp2_with fail
                refine (slHas_t _ _ _ xa3 _ _ ha3 ((RC.out.below d3).mono (by first | omega | (simp; done) | (simp; omega))) false T0.out).mono ?_
                rintro e4 W4 ⟨rfl, rfl⟩
                go_wp2
                refine wp_region_held_drew (S := (fun w' => w'.cell? ⟨w.heap.size, 0, none⟩ = some (.int .i64 a0_0) ∧ w'.cell? ⟨w.heap.size, 1, none⟩ = some (.slice a0_1 la2 ca0_1) ∧ w'.cell? ⟨W3.heap.size, 0, none⟩ = some (.int .i64 a0_0) ∧ w'.cell? ⟨W3.heap.size, 1, none⟩ = some (.slice a0_1 la2 ca0_1) ∧ w'.cell? ⟨W3.heap.size, 2, none⟩ = some (.slice a2 la2 ca2))) (by kernel_rfl) ⟨(World.cell?_alloc_lt _ _ _ s3).trans x0, (World.cell?_alloc_lt _ _ _ s3).trans x1, by simp, by simp, by simp⟩ (fun hHeld => ?_)
                ((refine wpAnyH_take (i := 0) (oi := ⟨some 47, _, _, _, _, _⟩) (v := ?_) rfl (by kernel_rfl) (by kernel_rfl) (by kernel_rfl) (fun _ _ _ h => h) (Or.inl ⟨by rfl, ?_⟩) (by assumption) ?_; rotate_left 1; (focus (intro w hSw; (try dsimp only at hSw); go_simp <;> try (first | (with_reducible rfl) | (rw [if_neg (by omega)])))); try simp only [Act.put, List.setIfInBounds_toArray, List.set_cons_zero, List.set_cons_succ]); (refine wpAnyH_take (i := 1) (oi := ⟨some 48, _, _, _, _, _⟩) (v := ?_) rfl (by kernel_rfl) (by kernel_rfl) (by kernel_rfl) (fun _ _ _ h => h) (Or.inl ⟨by rfl, ?_⟩) (by assumption) ?_; rotate_left 1; (focus (intro w hSw; (try dsimp only at hSw); go_simp <;> try (first | (with_reducible rfl) | (rw [if_neg (by omega)])))); try simp only [Act.put, List.setIfInBounds_toArray, List.set_cons_zero, List.set_cons_succ]); (refine wpAnyH_take (i := 2) (oi := ⟨some 49, _, _, _, _, _⟩) (v := ?_) rfl (by kernel_rfl) (by kernel_rfl) (by kernel_rfl) (fun _ _ _ h => h) (Or.inl ⟨by rfl, ?_⟩) (by assumption) ?_; rotate_left 1; (focus (intro w hSw; (try dsimp only at hSw); go_simp <;> try (first | (with_reducible rfl) | (rw [if_neg (by omega)])))); try simp only [Act.put, List.setIfInBounds_toArray, List.set_cons_zero, List.set_cons_succ]); (refine wpAnyH_take (i := 3) (oi := ⟨some 50, _, _, _, _, _⟩) (v := ?_) rfl (by kernel_rfl) (by kernel_rfl) (by kernel_rfl) (fun _ _ _ h => h) (Or.inl ⟨by rfl, ?_⟩) (by assumption) ?_; rotate_left 1; (focus (intro w hSw; (try dsimp only at hSw); go_simp <;> try (first | (with_reducible rfl) | (rw [if_neg (by omega)])))); try simp only [Act.put, List.setIfInBounds_toArray, List.set_cons_zero, List.set_cons_succ]))
                (refine wpAnyH_ready (rs := [4]) (by kernel_rfl) (by simp) ?_; refine AllReadyH.cons rfl (fun K hK => ?_) AllReadyH.nil; go_simp)
                refine (leadsFrom_t _ _ _ _ xa0_1 _ _ xa2 _ _ ha0_1 ((RA.out.below (by repeat (first | assumption | exact Below.refl _ _ | (refine Below.trans ?_ (d3.mono (by first | omega | (simp; done) | (simp; omega)))) | (refine Below.setCell ?_ (by first | omega | (simp; done) | (simp; omega)) _) | apply below_drewN | apply Below.drew | (refine Below.alloc ?_ (by first | omega | (simp; done) | (simp; omega)) _)))).mono (by first | omega | (simp; done) | (simp; omega))) ((RB.out.below (by repeat (first | assumption | exact Below.refl _ _ | (refine Below.trans ?_ (d3.mono (by first | omega | (simp; done) | (simp; omega)))) | (refine Below.setCell ?_ (by first | omega | (simp; done) | (simp; omega)) _) | apply below_drewN | apply Below.drew | (refine Below.alloc ?_ (by first | omega | (simp; done) | (simp; omega)) _)))).mono (by first | omega | (simp; done) | (simp; omega))) HV.out HS.out false LD.out).mono ?_
                rintro e5 W5 ⟨rfl, b5⟩
                have d5 : Below w.heap.size w W5 := (by repeat (first | assumption | exact Below.refl _ _ | (refine Below.trans ?_ (b5.mono (by first | omega | (simp; done) | (simp; omega)))) | (refine Below.trans ?_ (d3.mono (by first | omega | (simp; done) | (simp; omega)))) | (refine Below.setCell ?_ (by first | omega | (simp; done) | (simp; omega)) _) | apply below_drewN | apply Below.drew | (refine Below.alloc ?_ (by first | omega | (simp; done) | (simp; omega)) _)))
                obtain ⟨q0, q1, q2, q3, q4⟩ := hHeld
                have r0 := (b5.cell (p := ⟨w.heap.size, 0, none⟩) (by first | omega | (simp; done) | (simp; omega))).trans q0
                have r1 := (b5.cell (p := ⟨w.heap.size, 1, none⟩) (by first | omega | (simp; done) | (simp; omega))).trans q1
                have r2 := (b5.cell (p := ⟨W3.heap.size, 0, none⟩) (by simp)).trans q2
                have r3 := (b5.cell (p := ⟨W3.heap.size, 1, none⟩) (by simp)).trans q3
                have r4 := (b5.cell (p := ⟨W3.heap.size, 2, none⟩) (by simp)).trans q4
                clear q0 q1 q2 q3 q4
                (refine hK.out _ _ ?_ (fun hHeld => ?_))
                · exact ⟨r0, r1, r2, r3, r4⟩
                ((refine wpAnyH_take (i := 5) (oi := ⟨some 52, _, _, _, _, _⟩) (v := ?_) rfl (by kernel_rfl) (by kernel_rfl) (by kernel_rfl) (fun _ _ _ h => h) (Or.inl ⟨by rfl, ?_⟩) (by assumption) ?_; rotate_left 1; (focus (intro w hSw; (try dsimp only at hSw); go_simp <;> try (first | (with_reducible rfl) | (rw [if_neg (by omega)])))); try simp only [Act.put, List.setIfInBounds_toArray, List.set_cons_zero, List.set_cons_succ]); (refine wpAnyH_take (i := 6) (oi := ⟨some 53, _, _, _, _, _⟩) (v := ?_) rfl (by kernel_rfl) (by kernel_rfl) (by kernel_rfl) (fun _ _ _ h => h) (Or.inl ⟨by rfl, ?_⟩) (by assumption) ?_; rotate_left 1; (focus (intro w hSw; (try dsimp only at hSw); go_simp <;> try (first | (with_reducible rfl) | (rw [if_neg (by omega)])))); try simp only [Act.put, List.setIfInBounds_toArray, List.set_cons_zero, List.set_cons_succ]); (refine wpAnyH_take (i := 7) (oi := ⟨some 54, _, _, _, _, _⟩) (v := undef) rfl (by kernel_rfl) (by kernel_rfl) (by kernel_rfl) (fun _ _ _ h => h) (Or.inr ⟨by rfl, rfl⟩) (by assumption) ?_; try simp only [Act.put, List.setIfInBounds_toArray, List.set_cons_zero, List.set_cons_succ]); (refine wpAnyH_take (i := 8) (oi := ⟨some 55, _, _, _, _, _⟩) (v := undef) rfl (by kernel_rfl) (by kernel_rfl) (by kernel_rfl) (fun _ _ _ h => h) (Or.inr ⟨by rfl, rfl⟩) (by assumption) ?_; try simp only [Act.put, List.setIfInBounds_toArray, List.set_cons_zero, List.set_cons_succ]); (refine wpAnyH_take (i := 9) (oi := ⟨some 56, _, _, _, _, _⟩) (v := undef) rfl (by kernel_rfl) (by kernel_rfl) (by kernel_rfl) (fun _ _ _ h => h) (Or.inr ⟨by rfl, rfl⟩) (by assumption) ?_; try simp only [Act.put, List.setIfInBounds_toArray, List.set_cons_zero, List.set_cons_succ]); (refine wpAnyH_take (i := 10) (oi := ⟨some 57, _, _, _, _, _⟩) (v := undef) rfl (by kernel_rfl) (by kernel_rfl) (by kernel_rfl) (fun _ _ _ h => h) (Or.inr ⟨by rfl, rfl⟩) (by assumption) ?_; try simp only [Act.put, List.setIfInBounds_toArray, List.set_cons_zero, List.set_cons_succ]); (refine wpAnyH_take (i := 11) (oi := ⟨some 58, _, _, _, _, _⟩) (v := undef) rfl (by kernel_rfl) (by kernel_rfl) (by kernel_rfl) (fun _ _ _ h => h) (Or.inr ⟨by rfl, rfl⟩) (by assumption) ?_; try simp only [Act.put, List.setIfInBounds_toArray, List.set_cons_zero, List.set_cons_succ]); (refine wpAnyH_take (i := 12) (oi := ⟨some 59, _, _, _, _, _⟩) (v := undef) rfl (by kernel_rfl) (by kernel_rfl) (by kernel_rfl) (fun _ _ _ h => h) (Or.inr ⟨by rfl, rfl⟩) (by assumption) ?_; try simp only [Act.put, List.setIfInBounds_toArray, List.set_cons_zero, List.set_cons_succ]); (refine wpAnyH_take (i := 13) (oi := ⟨some 60, _, _, _, _, _⟩) (v := undef) rfl (by kernel_rfl) (by kernel_rfl) (by kernel_rfl) (fun _ _ _ h => h) (Or.inr ⟨by rfl, rfl⟩) (by assumption) ?_; try simp only [Act.put, List.setIfInBounds_toArray, List.set_cons_zero, List.set_cons_succ]); (refine wpAnyH_take (i := 14) (oi := ⟨some 61, _, _, _, _, _⟩) (v := ?_) rfl (by kernel_rfl) (by kernel_rfl) (by kernel_rfl) (fun _ _ _ h => h) (Or.inl ⟨by rfl, ?_⟩) (by assumption) ?_; rotate_left 1; (focus (intro w hSw; (try dsimp only at hSw); go_simp <;> try (first | (with_reducible rfl) | (rw [if_neg (by omega)])))); try simp only [Act.put, List.setIfInBounds_toArray, List.set_cons_zero, List.set_cons_succ]); (refine wpAnyH_take (i := 15) (oi := ⟨some 8, _, _, _, _, _⟩) (v := ?_) rfl (by kernel_rfl) (by kernel_rfl) (by kernel_rfl) (fun _ _ _ h => h) (Or.inl ⟨by rfl, ?_⟩) (by assumption) ?_; rotate_left 1; (focus (intro w hSw; (try dsimp only at hSw); go_simp <;> try (first | (with_reducible rfl) | (rw [if_neg (by omega)])))); try simp only [Act.put, List.setIfInBounds_toArray, List.set_cons_zero, List.set_cons_succ]); (refine wpAnyH_take (i := 16) (oi := ⟨some 9, _, _, _, _, _⟩) (v := ?_) rfl (by kernel_rfl) (by kernel_rfl) (by kernel_rfl) (fun _ _ _ h => h) (Or.inl ⟨by rfl, ?_⟩) (by assumption) ?_; rotate_left 1; (focus (intro w hSw; (try dsimp only at hSw); go_simp <;> try (first | (with_reducible rfl) | (rw [if_neg (by omega)])))); try simp only [Act.put, List.setIfInBounds_toArray, List.set_cons_zero, List.set_cons_succ]))
                refine wpAnyH_done (by kernel_rfl) ?_ _
                go_wp2
                go_ret2
                exact ⟨rfl, d5⟩
          · have t1 : false = decide (a1 ∈ xa3) := (decide_eq_false h1).symm
            have T1 := Lib.hid t1
            have er : decide (a1 ∈ xa3 ∧ ¬ (0 : Int) ∈ xa3 ∧ leads a0_0 xa0_1 a1 xa2 ∧ outOf xa0_1 xa2 a1 xa0_1.length = cutOf xa0_1 xa3 xa0_1.length) = false := decide_eq_false (fun h => h1 h.1)
            rw [er]
            clear t1 h1 er
            go_enter Try.func25, Try.ntmps25
            go_wp2_with fail
            refine (canStart_w _ _ _ _ _ _ true VS.out).mono ?_
            rintro e1 W1 ⟨rfl, b1⟩
            have s1 : w.heap.size < W1.heap.size := by have := b1.size; simp at this; omega
            have d1 : Below w.heap.size w W1 := (by repeat (first | assumption | exact Below.refl _ _ | (refine Below.trans ?_ (b1.mono (by first | omega | (simp; done) | (simp; omega)))) | (refine Below.setCell ?_ (by first | omega | (simp; done) | (simp; omega)) _) | apply below_drewN | apply Below.drew | (refine Below.alloc ?_ (by first | omega | (simp; done) | (simp; omega)) _)))
            obtain ⟨k1, f1⟩ := bcell b1
            have z0 : W1.cell? ⟨w.heap.size, 0, none⟩ = some (.int .i64 a0_0) := (by rw [k1 _ _ (by first | omega | (simp; done) | (simp; omega))]; first | (simp; done) | go_simp); have zf0 : W1.frozen? ⟨w.heap.size, 0, none⟩ = false := (by rw [f1 _ _ (by first | omega | (simp; done) | (simp; omega))]; first | (simp; done) | go_simp); have z1 : W1.cell? ⟨w.heap.size, 1, none⟩ = some (.slice a0_1 la2 ca0_1) := (by rw [k1 _ _ (by first | omega | (simp; done) | (simp; omega))]; first | (simp; done) | go_simp); have zf1 : W1.frozen? ⟨w.heap.size, 1, none⟩ = false := (by rw [f1 _ _ (by first | omega | (simp; done) | (simp; omega))]; first | (simp; done) | go_simp)
            clear k1 f1
            go_wp2_with fail
            refine (hasSide_t _ _ _ _ _ _ _ xa3 _ ha3 ((RC.out.below d1).mono (by first | omega | (simp; done) | (simp; omega))) true VD.out).mono ?_
            rintro e2 W2 ⟨rfl, b2⟩
            have s2 : w.heap.size < W2.heap.size := by have := b2.size; omega
            have d2 : Below w.heap.size w W2 := (by repeat (first | assumption | exact Below.refl _ _ | (refine Below.trans ?_ (b2.mono (by first | omega | (simp; done) | (simp; omega)))) | (refine Below.trans ?_ (d1.mono (by first | omega | (simp; done) | (simp; omega)))) | (refine Below.setCell ?_ (by first | omega | (simp; done) | (simp; omega)) _) | apply below_drewN | apply Below.drew | (refine Below.alloc ?_ (by first | omega | (simp; done) | (simp; omega)) _)))
            have y0 : W2.cell? ⟨w.heap.size, 0, none⟩ = _ := (b2.cell (p := ⟨w.heap.size, 0, none⟩) (show w.heap.size < _ from (by first | omega | (simp; done) | (simp; omega)))).trans z0; have yf0 : W2.frozen? ⟨w.heap.size, 0, none⟩ = _ := (b2.frozen (p := ⟨w.heap.size, 0, none⟩) (show w.heap.size < _ from (by first | omega | (simp; done) | (simp; omega)))).trans zf0; have y1 : W2.cell? ⟨w.heap.size, 1, none⟩ = _ := (b2.cell (p := ⟨w.heap.size, 1, none⟩) (show w.heap.size < _ from (by first | omega | (simp; done) | (simp; omega)))).trans z1; have yf1 : W2.frozen? ⟨w.heap.size, 1, none⟩ = _ := (b2.frozen (p := ⟨w.heap.size, 1, none⟩) (show w.heap.size < _ from (by first | omega | (simp; done) | (simp; omega)))).trans zf1
            go_wp2_with fail
            refine (netCode_t _ _ _ _ xa0_1 _ (start a0_0 a1 ∧ xa2.length = xa0_1.length ∧ Side a0_0 xa3) _ ha0_1 ((RA.out.below d2).mono (by first | omega | (simp; done) | (simp; omega))) PS.out).mono ?_
            rintro e9 W3 ⟨rfl, b3⟩
            rw [E.out]
            have s3 : w.heap.size < W3.heap.size := by have := b3.size; omega
            have d3 : Below w.heap.size w W3 := (by repeat (first | assumption | exact Below.refl _ _ | (refine Below.trans ?_ (b3.mono (by first | omega | (simp; done) | (simp; omega)))) | (refine Below.trans ?_ (d2.mono (by first | omega | (simp; done) | (simp; omega)))) | (refine Below.setCell ?_ (by first | omega | (simp; done) | (simp; omega)) _) | apply below_drewN | apply Below.drew | (refine Below.alloc ?_ (by first | omega | (simp; done) | (simp; omega)) _)))
            have x0 : W3.cell? ⟨w.heap.size, 0, none⟩ = _ := (b3.cell (p := ⟨w.heap.size, 0, none⟩) (show w.heap.size < _ from (by first | omega | (simp; done) | (simp; omega)))).trans y0; have xf0 : W3.frozen? ⟨w.heap.size, 0, none⟩ = _ := (b3.frozen (p := ⟨w.heap.size, 0, none⟩) (show w.heap.size < _ from (by first | omega | (simp; done) | (simp; omega)))).trans yf0; have x1 : W3.cell? ⟨w.heap.size, 1, none⟩ = _ := (b3.cell (p := ⟨w.heap.size, 1, none⟩) (show w.heap.size < _ from (by first | omega | (simp; done) | (simp; omega)))).trans y1; have xf1 : W3.frozen? ⟨w.heap.size, 1, none⟩ = _ := (b3.frozen (p := ⟨w.heap.size, 1, none⟩) (show w.heap.size < _ from (by first | omega | (simp; done) | (simp; omega)))).trans yf1
            go_wp2_with fail
            refine (slHas_t _ _ _ xa3 _ _ ha3 ((RC.out.below d3).mono (by first | omega | (simp; done) | (simp; omega))) false T1.out).mono ?_
            rintro e4 W4 ⟨rfl, rfl⟩
            go_wp2
            refine wp_region_held_drew (S := fun _ => True) (by kernel_rfl) trivial (fun hHeld => ?_)
            ((refine wpAnyH_take (i := 0) (oi := ⟨some 47, _, _, _, _, _⟩) (v := ?_) rfl (by kernel_rfl) (by kernel_rfl) (by kernel_rfl) (fun _ _ _ h => h) (Or.inl ⟨by rfl, ?_⟩) (by assumption) ?_; rotate_left 1; (focus (intro w hSw; (try dsimp only at hSw); go_simp <;> try (first | (with_reducible rfl) | (rw [if_neg (by omega)])))); try simp only [Act.put, List.setIfInBounds_toArray, List.set_cons_zero, List.set_cons_succ]); (refine wpAnyH_take (i := 1) (oi := ⟨some 48, _, _, _, _, _⟩) (v := ?_) rfl (by kernel_rfl) (by kernel_rfl) (by kernel_rfl) (fun _ _ _ h => h) (Or.inl ⟨by rfl, ?_⟩) (by assumption) ?_; rotate_left 1; (focus (intro w hSw; (try dsimp only at hSw); go_simp <;> try (first | (with_reducible rfl) | (rw [if_neg (by omega)])))); try simp only [Act.put, List.setIfInBounds_toArray, List.set_cons_zero, List.set_cons_succ]); (refine wpAnyH_take (i := 2) (oi := ⟨some 49, _, _, _, _, _⟩) (v := undef) rfl (by kernel_rfl) (by kernel_rfl) (by kernel_rfl) (fun _ _ _ h => h) (Or.inr ⟨by rfl, rfl⟩) (by assumption) ?_; try simp only [Act.put, List.setIfInBounds_toArray, List.set_cons_zero, List.set_cons_succ]); (refine wpAnyH_take (i := 3) (oi := ⟨some 50, _, _, _, _, _⟩) (v := undef) rfl (by kernel_rfl) (by kernel_rfl) (by kernel_rfl) (fun _ _ _ h => h) (Or.inr ⟨by rfl, rfl⟩) (by assumption) ?_; try simp only [Act.put, List.setIfInBounds_toArray, List.set_cons_zero, List.set_cons_succ]); (refine wpAnyH_take (i := 4) (oi := ⟨some 51, _, _, _, _, _⟩) (v := undef) rfl (by kernel_rfl) (by kernel_rfl) (by kernel_rfl) (fun _ _ _ h => h) (Or.inr ⟨by rfl, rfl⟩) (by assumption) ?_; try simp only [Act.put, List.setIfInBounds_toArray, List.set_cons_zero, List.set_cons_succ]); (refine wpAnyH_take (i := 5) (oi := ⟨some 52, _, _, _, _, _⟩) (v := ?_) rfl (by kernel_rfl) (by kernel_rfl) (by kernel_rfl) (fun _ _ _ h => h) (Or.inl ⟨by rfl, ?_⟩) (by assumption) ?_; rotate_left 1; (focus (intro w hSw; (try dsimp only at hSw); go_simp <;> try (first | (with_reducible rfl) | (rw [if_neg (by omega)])))); try simp only [Act.put, List.setIfInBounds_toArray, List.set_cons_zero, List.set_cons_succ]); (refine wpAnyH_take (i := 6) (oi := ⟨some 53, _, _, _, _, _⟩) (v := ?_) rfl (by kernel_rfl) (by kernel_rfl) (by kernel_rfl) (fun _ _ _ h => h) (Or.inl ⟨by rfl, ?_⟩) (by assumption) ?_; rotate_left 1; (focus (intro w hSw; (try dsimp only at hSw); go_simp <;> try (first | (with_reducible rfl) | (rw [if_neg (by omega)])))); try simp only [Act.put, List.setIfInBounds_toArray, List.set_cons_zero, List.set_cons_succ]); (refine wpAnyH_take (i := 7) (oi := ⟨some 54, _, _, _, _, _⟩) (v := undef) rfl (by kernel_rfl) (by kernel_rfl) (by kernel_rfl) (fun _ _ _ h => h) (Or.inr ⟨by rfl, rfl⟩) (by assumption) ?_; try simp only [Act.put, List.setIfInBounds_toArray, List.set_cons_zero, List.set_cons_succ]); (refine wpAnyH_take (i := 8) (oi := ⟨some 55, _, _, _, _, _⟩) (v := undef) rfl (by kernel_rfl) (by kernel_rfl) (by kernel_rfl) (fun _ _ _ h => h) (Or.inr ⟨by rfl, rfl⟩) (by assumption) ?_; try simp only [Act.put, List.setIfInBounds_toArray, List.set_cons_zero, List.set_cons_succ]); (refine wpAnyH_take (i := 9) (oi := ⟨some 56, _, _, _, _, _⟩) (v := undef) rfl (by kernel_rfl) (by kernel_rfl) (by kernel_rfl) (fun _ _ _ h => h) (Or.inr ⟨by rfl, rfl⟩) (by assumption) ?_; try simp only [Act.put, List.setIfInBounds_toArray, List.set_cons_zero, List.set_cons_succ]); (refine wpAnyH_take (i := 10) (oi := ⟨some 57, _, _, _, _, _⟩) (v := undef) rfl (by kernel_rfl) (by kernel_rfl) (by kernel_rfl) (fun _ _ _ h => h) (Or.inr ⟨by rfl, rfl⟩) (by assumption) ?_; try simp only [Act.put, List.setIfInBounds_toArray, List.set_cons_zero, List.set_cons_succ]); (refine wpAnyH_take (i := 11) (oi := ⟨some 58, _, _, _, _, _⟩) (v := undef) rfl (by kernel_rfl) (by kernel_rfl) (by kernel_rfl) (fun _ _ _ h => h) (Or.inr ⟨by rfl, rfl⟩) (by assumption) ?_; try simp only [Act.put, List.setIfInBounds_toArray, List.set_cons_zero, List.set_cons_succ]); (refine wpAnyH_take (i := 12) (oi := ⟨some 59, _, _, _, _, _⟩) (v := undef) rfl (by kernel_rfl) (by kernel_rfl) (by kernel_rfl) (fun _ _ _ h => h) (Or.inr ⟨by rfl, rfl⟩) (by assumption) ?_; try simp only [Act.put, List.setIfInBounds_toArray, List.set_cons_zero, List.set_cons_succ]); (refine wpAnyH_take (i := 13) (oi := ⟨some 60, _, _, _, _, _⟩) (v := undef) rfl (by kernel_rfl) (by kernel_rfl) (by kernel_rfl) (fun _ _ _ h => h) (Or.inr ⟨by rfl, rfl⟩) (by assumption) ?_; try simp only [Act.put, List.setIfInBounds_toArray, List.set_cons_zero, List.set_cons_succ]); (refine wpAnyH_take (i := 14) (oi := ⟨some 61, _, _, _, _, _⟩) (v := ?_) rfl (by kernel_rfl) (by kernel_rfl) (by kernel_rfl) (fun _ _ _ h => h) (Or.inl ⟨by rfl, ?_⟩) (by assumption) ?_; rotate_left 1; (focus (intro w hSw; (try dsimp only at hSw); go_simp <;> try (first | (with_reducible rfl) | (rw [if_neg (by omega)])))); try simp only [Act.put, List.setIfInBounds_toArray, List.set_cons_zero, List.set_cons_succ]); (refine wpAnyH_take (i := 15) (oi := ⟨some 8, _, _, _, _, _⟩) (v := ?_) rfl (by kernel_rfl) (by kernel_rfl) (by kernel_rfl) (fun _ _ _ h => h) (Or.inl ⟨by rfl, ?_⟩) (by assumption) ?_; rotate_left 1; (focus (intro w hSw; (try dsimp only at hSw); go_simp <;> try (first | (with_reducible rfl) | (rw [if_neg (by omega)])))); try simp only [Act.put, List.setIfInBounds_toArray, List.set_cons_zero, List.set_cons_succ]); (refine wpAnyH_take (i := 16) (oi := ⟨some 9, _, _, _, _, _⟩) (v := ?_) rfl (by kernel_rfl) (by kernel_rfl) (by kernel_rfl) (fun _ _ _ h => h) (Or.inl ⟨by rfl, ?_⟩) (by assumption) ?_; rotate_left 1; (focus (intro w hSw; (try dsimp only at hSw); go_simp <;> try (first | (with_reducible rfl) | (rw [if_neg (by omega)])))); try simp only [Act.put, List.setIfInBounds_toArray, List.set_cons_zero, List.set_cons_succ]))
            refine wpAnyH_done (by kernel_rfl) ?_ _
            go_wp2
            go_ret2
            exact ⟨rfl, (by repeat (first | assumption | exact Below.refl _ _ | (refine Below.trans ?_ (d3.mono (by first | omega | (simp; done) | (simp; omega)))) | (refine Below.setCell ?_ (by first | omega | (simp; done) | (simp; omega)) _) | apply below_drewN | apply Below.drew | (refine Below.alloc ?_ (by first | omega | (simp; done) | (simp; omega)) _)))⟩

set_option maxHeartbeats 6400000 in
theorem implC_FlowProof (a0_0 : Int) (a0_1 : Option Addr) (la0_1 ca0_1 : Nat) (xa0_1 : List RDitch) (a1 : Int) (a2 : Option Addr) (la2 ca2 : Nat) (xa2 : List Int) (a3 : Option Addr) (la3 ca3 : Nat) (xa3 : List Int) (w : World) (ha0_0 : (Lit.int .i64 a0_0).wf = true) (ha0_1 : la0_1 ≤ 1048576) (ra0_1 : Rd_Ditch w w.heap.size a0_1 la0_1 xa0_1) (fa0_1 : Wf_Ditch xa0_1) (ha1 : (Lit.int .i64 a1).wf = true) (ha2 : la2 ≤ 1048576) (ra2 : Rd w w.heap.size a2 la2 xa2) (fa2 : Wf xa2) (ha3 : la3 ≤ 1048576) (ra3 : Rd w w.heap.size a3 la3 xa3) (fa3 : Wf xa3) :
    Calls Try.prog 25 #[.agg #[.int .i64 a0_0, .slice a0_1 la0_1 ca0_1], .int .i64 a1, .slice a2 la2 ca2, .slice a3 la3 ca3] w fun e w' => e = .returned (.tuple #[.bool (r0_FlowProof a0_0 xa0_1 a1 xa2 xa3), .int .i64 (r1_FlowProof a0_0 xa0_1 a1 xa2 xa3)]) ∧ Below w.heap.size w w' := by
  have hl0 := ra0_1.len
  have hl2 := ra2.1
  have RA := Lib.hid ra0_1
  have RB := Lib.hid ra2
  have RC := Lib.hid ra3
  clear ra0_1 ra2 ra3
  obtain ⟨vs, hvs⟩ : ∃ v, v = cs a0_0 a1 := ⟨_, rfl⟩
  obtain ⟨vd, hvd⟩ : ∃ v, v = decide (∀ j, j < xa3.length → stepOk 0 (wrap64 (a0_0 - 1)) xa3 j) := ⟨_, rfl⟩
  have hps : NetOk a0_0 xa0_1 → vs = decide (start a0_0 a1) := fun h => hvs.trans (cs_ok h.1)
  have hpd : NetOk a0_0 xa0_1 → vd = decide (Side a0_0 xa3) := fun h => hvd.trans (decide_eq_decide.2 (side_w h.1))
  have VS := Lib.hid hvs
  have VD := Lib.hid hvd
  clear hvs hvd
  cases vs
  · have hpp : NetOk a0_0 xa0_1 → false = decide (start a0_0 a1 ∧ xa2.length = xa0_1.length ∧ Side a0_0 xa3) := fun h => (decide_eq_false (fun g => of_decide_eq_false (hps h).symm g.1)).symm
    have hc : ¬ (NetOk a0_0 xa0_1 ∧ (start a0_0 a1 ∧ xa2.length = xa0_1.length ∧ Side a0_0 xa3)) := fun g => of_decide_eq_false (hpp g.1).symm g.2
    have e0 := fp_no (a0_0 := a0_0) (xa0_1 := xa0_1) (a1 := a1) (xa2 := xa2) (xa3 := xa3) hc
    have e1 : r1_FlowProof a0_0 xa0_1 a1 xa2 xa3 = ncode a0_0 xa0_1 (start a0_0 a1 ∧ xa2.length = xa0_1.length ∧ Side a0_0 xa3) := rfl
    rw [e0, e1]
    have e2 := ncode_ne hc
    have PS := Lib.hid hpp
    clear e0 e1 hc hpp hps hpd hl0 hl2
    generalize hC : ncode a0_0 xa0_1 (start a0_0 a1 ∧ xa2.length = xa0_1.length ∧ Side a0_0 xa3) = C at *
    have E := Lib.hid hC
    clear hC
    go_enter Try.func25, Try.ntmps25
    go_wp2_with fail
    refine (canStart_w _ _ _ _ _ _ false VS.out).mono ?_
    rintro e1 W1 ⟨rfl, b1⟩
    have s1 : w.heap.size < W1.heap.size := by have := b1.size; simp at this; omega
    have d1 : Below w.heap.size w W1 := (by repeat (first | assumption | exact Below.refl _ _ | (refine Below.trans ?_ (b1.mono (by first | omega | (simp; done) | (simp; omega)))) | (refine Below.setCell ?_ (by first | omega | (simp; done) | (simp; omega)) _) | apply below_drewN | apply Below.drew | (refine Below.alloc ?_ (by first | omega | (simp; done) | (simp; omega)) _)))
    obtain ⟨k1, f1⟩ := bcell b1
    have z0 : W1.cell? ⟨w.heap.size, 0, none⟩ = some (.int .i64 a0_0) := (by rw [k1 _ _ (by first | omega | (simp; done) | (simp; omega))]; first | (simp; done) | go_simp); have zf0 : W1.frozen? ⟨w.heap.size, 0, none⟩ = false := (by rw [f1 _ _ (by first | omega | (simp; done) | (simp; omega))]; first | (simp; done) | go_simp); have z1 : W1.cell? ⟨w.heap.size, 1, none⟩ = some (.slice a0_1 la0_1 ca0_1) := (by rw [k1 _ _ (by first | omega | (simp; done) | (simp; omega))]; first | (simp; done) | go_simp); have zf1 : W1.frozen? ⟨w.heap.size, 1, none⟩ = false := (by rw [f1 _ _ (by first | omega | (simp; done) | (simp; omega))]; first | (simp; done) | go_simp)
    clear k1 f1
    go_wp2_with fail
    refine (netCode_t _ _ _ _ xa0_1 _ (start a0_0 a1 ∧ xa2.length = xa0_1.length ∧ Side a0_0 xa3) _ ha0_1 ((RA.out.below d1).mono (by first | omega | (simp; done) | (simp; omega))) PS.out).mono ?_
    rintro e9 W3 ⟨rfl, b3⟩
    rw [E.out]
    have s3 : w.heap.size < W3.heap.size := by have := b3.size; omega
    have d3 : Below w.heap.size w W3 := (by repeat (first | assumption | exact Below.refl _ _ | (refine Below.trans ?_ (b3.mono (by first | omega | (simp; done) | (simp; omega)))) | (refine Below.trans ?_ (d1.mono (by first | omega | (simp; done) | (simp; omega)))) | (refine Below.setCell ?_ (by first | omega | (simp; done) | (simp; omega)) _) | apply below_drewN | apply Below.drew | (refine Below.alloc ?_ (by first | omega | (simp; done) | (simp; omega)) _)))
    have x0 : W3.cell? ⟨w.heap.size, 0, none⟩ = _ := (b3.cell (p := ⟨w.heap.size, 0, none⟩) (show w.heap.size < _ from (by first | omega | (simp; done) | (simp; omega)))).trans z0; have xf0 : W3.frozen? ⟨w.heap.size, 0, none⟩ = _ := (b3.frozen (p := ⟨w.heap.size, 0, none⟩) (show w.heap.size < _ from (by first | omega | (simp; done) | (simp; omega)))).trans zf0; have x1 : W3.cell? ⟨w.heap.size, 1, none⟩ = _ := (b3.cell (p := ⟨w.heap.size, 1, none⟩) (show w.heap.size < _ from (by first | omega | (simp; done) | (simp; omega)))).trans z1; have xf1 : W3.frozen? ⟨w.heap.size, 1, none⟩ = _ := (b3.frozen (p := ⟨w.heap.size, 1, none⟩) (show w.heap.size < _ from (by first | omega | (simp; done) | (simp; omega)))).trans zf1
    go_wp2
    go_ret2
    exact ⟨rfl, d3⟩
  · by_cases hm : la2 = la0_1
    · subst hm
      have h0 : ((la2 : Int) == (la2 : Int)) = true := by simp
      cases vd
      · have hpp : NetOk a0_0 xa0_1 → false = decide (start a0_0 a1 ∧ xa2.length = xa0_1.length ∧ Side a0_0 xa3) := fun h => (decide_eq_false (fun g => of_decide_eq_false (hpd h).symm g.2.2)).symm
        have hc : ¬ (NetOk a0_0 xa0_1 ∧ (start a0_0 a1 ∧ xa2.length = xa0_1.length ∧ Side a0_0 xa3)) := fun g => of_decide_eq_false (hpp g.1).symm g.2
        have e0 := fp_no (a0_0 := a0_0) (xa0_1 := xa0_1) (a1 := a1) (xa2 := xa2) (xa3 := xa3) hc
        have e1 : r1_FlowProof a0_0 xa0_1 a1 xa2 xa3 = ncode a0_0 xa0_1 (start a0_0 a1 ∧ xa2.length = xa0_1.length ∧ Side a0_0 xa3) := rfl
        rw [e0, e1]
        have e2 := ncode_ne hc
        have PS := Lib.hid hpp
        clear e0 e1 hc hpp hps hpd hl0 hl2
        generalize hC : ncode a0_0 xa0_1 (start a0_0 a1 ∧ xa2.length = xa0_1.length ∧ Side a0_0 xa3) = C at *
        have E := Lib.hid hC
        clear hC
        go_enter Try.func25, Try.ntmps25
        go_wp2_with fail
        refine (canStart_w _ _ _ _ _ _ true VS.out).mono ?_
        rintro e1 W1 ⟨rfl, b1⟩
        have s1 : w.heap.size < W1.heap.size := by have := b1.size; simp at this; omega
        have d1 : Below w.heap.size w W1 := (by repeat (first | assumption | exact Below.refl _ _ | (refine Below.trans ?_ (b1.mono (by first | omega | (simp; done) | (simp; omega)))) | (refine Below.setCell ?_ (by first | omega | (simp; done) | (simp; omega)) _) | apply below_drewN | apply Below.drew | (refine Below.alloc ?_ (by first | omega | (simp; done) | (simp; omega)) _)))
        obtain ⟨k1, f1⟩ := bcell b1
        have z0 : W1.cell? ⟨w.heap.size, 0, none⟩ = some (.int .i64 a0_0) := (by rw [k1 _ _ (by first | omega | (simp; done) | (simp; omega))]; first | (simp; done) | go_simp); have zf0 : W1.frozen? ⟨w.heap.size, 0, none⟩ = false := (by rw [f1 _ _ (by first | omega | (simp; done) | (simp; omega))]; first | (simp; done) | go_simp); have z1 : W1.cell? ⟨w.heap.size, 1, none⟩ = some (.slice a0_1 la2 ca0_1) := (by rw [k1 _ _ (by first | omega | (simp; done) | (simp; omega))]; first | (simp; done) | go_simp); have zf1 : W1.frozen? ⟨w.heap.size, 1, none⟩ = false := (by rw [f1 _ _ (by first | omega | (simp; done) | (simp; omega))]; first | (simp; done) | go_simp)
        clear k1 f1
        go_wp2_with fail
        refine (hasSide_t _ _ _ _ _ _ _ xa3 _ ha3 ((RC.out.below d1).mono (by first | omega | (simp; done) | (simp; omega))) false VD.out).mono ?_
        rintro e2 W2 ⟨rfl, b2⟩
        have s2 : w.heap.size < W2.heap.size := by have := b2.size; omega
        have d2 : Below w.heap.size w W2 := (by repeat (first | assumption | exact Below.refl _ _ | (refine Below.trans ?_ (b2.mono (by first | omega | (simp; done) | (simp; omega)))) | (refine Below.trans ?_ (d1.mono (by first | omega | (simp; done) | (simp; omega)))) | (refine Below.setCell ?_ (by first | omega | (simp; done) | (simp; omega)) _) | apply below_drewN | apply Below.drew | (refine Below.alloc ?_ (by first | omega | (simp; done) | (simp; omega)) _)))
        have y0 : W2.cell? ⟨w.heap.size, 0, none⟩ = _ := (b2.cell (p := ⟨w.heap.size, 0, none⟩) (show w.heap.size < _ from (by first | omega | (simp; done) | (simp; omega)))).trans z0; have yf0 : W2.frozen? ⟨w.heap.size, 0, none⟩ = _ := (b2.frozen (p := ⟨w.heap.size, 0, none⟩) (show w.heap.size < _ from (by first | omega | (simp; done) | (simp; omega)))).trans zf0; have y1 : W2.cell? ⟨w.heap.size, 1, none⟩ = _ := (b2.cell (p := ⟨w.heap.size, 1, none⟩) (show w.heap.size < _ from (by first | omega | (simp; done) | (simp; omega)))).trans z1; have yf1 : W2.frozen? ⟨w.heap.size, 1, none⟩ = _ := (b2.frozen (p := ⟨w.heap.size, 1, none⟩) (show w.heap.size < _ from (by first | omega | (simp; done) | (simp; omega)))).trans zf1
        go_wp2_with fail
        refine (netCode_t _ _ _ _ xa0_1 _ (start a0_0 a1 ∧ xa2.length = xa0_1.length ∧ Side a0_0 xa3) _ ha0_1 ((RA.out.below d2).mono (by first | omega | (simp; done) | (simp; omega))) PS.out).mono ?_
        rintro e9 W3 ⟨rfl, b3⟩
        rw [E.out]
        have s3 : w.heap.size < W3.heap.size := by have := b3.size; omega
        have d3 : Below w.heap.size w W3 := (by repeat (first | assumption | exact Below.refl _ _ | (refine Below.trans ?_ (b3.mono (by first | omega | (simp; done) | (simp; omega)))) | (refine Below.trans ?_ (d2.mono (by first | omega | (simp; done) | (simp; omega)))) | (refine Below.setCell ?_ (by first | omega | (simp; done) | (simp; omega)) _) | apply below_drewN | apply Below.drew | (refine Below.alloc ?_ (by first | omega | (simp; done) | (simp; omega)) _)))
        have x0 : W3.cell? ⟨w.heap.size, 0, none⟩ = _ := (b3.cell (p := ⟨w.heap.size, 0, none⟩) (show w.heap.size < _ from (by first | omega | (simp; done) | (simp; omega)))).trans y0; have xf0 : W3.frozen? ⟨w.heap.size, 0, none⟩ = _ := (b3.frozen (p := ⟨w.heap.size, 0, none⟩) (show w.heap.size < _ from (by first | omega | (simp; done) | (simp; omega)))).trans yf0; have x1 : W3.cell? ⟨w.heap.size, 1, none⟩ = _ := (b3.cell (p := ⟨w.heap.size, 1, none⟩) (show w.heap.size < _ from (by first | omega | (simp; done) | (simp; omega)))).trans y1; have xf1 : W3.frozen? ⟨w.heap.size, 1, none⟩ = _ := (b3.frozen (p := ⟨w.heap.size, 1, none⟩) (show w.heap.size < _ from (by first | omega | (simp; done) | (simp; omega)))).trans yf1
        go_wp2
        go_ret2
        exact ⟨rfl, d3⟩
      · have hpp : NetOk a0_0 xa0_1 → true = decide (start a0_0 a1 ∧ xa2.length = xa0_1.length ∧ Side a0_0 xa3) := fun h => (decide_eq_true ⟨of_decide_eq_true (hps h).symm, by rw [hl0, hl2], of_decide_eq_true (hpd h).symm⟩).symm
        by_cases hv : NetOk a0_0 xa0_1
        · have hst : start a0_0 a1 := of_decide_eq_true (hps hv).symm
          have hP : (start a0_0 a1 ∧ xa2.length = xa0_1.length ∧ Side a0_0 xa3) := of_decide_eq_true (hpp hv).symm
          obtain ⟨e0, e1⟩ := fp_yes (a1 := a1) (xa2 := xa2) (xa3 := xa3) ⟨hv, hP⟩
          rw [e0, e1]
          have hec : ncode a0_0 xa0_1 (start a0_0 a1 ∧ xa2.length = xa0_1.length ∧ Side a0_0 xa3) = 0 := ncode_ok hv hP
          have E := Lib.hid hec
          have PS := Lib.hid hpp
          have HV := Lib.hid hv
          have HS := Lib.hid hst
          clear e0 e1 hec hpp hps hpd hv hst hP hl0 hl2
          exact implFP_ok a0_0 a0_1 la2 ca0_1 xa0_1 a1 a2 ca2 xa2 a3 la3 ca3 xa3 w ha0_1 ha3 RA RB RC VS VD PS E HV HS
        · have hc : ¬ (NetOk a0_0 xa0_1 ∧ (start a0_0 a1 ∧ xa2.length = xa0_1.length ∧ Side a0_0 xa3)) := fun g => hv g.1
          clear hv
          have e0 := fp_no (a0_0 := a0_0) (xa0_1 := xa0_1) (a1 := a1) (xa2 := xa2) (xa3 := xa3) hc
          have e1 : r1_FlowProof a0_0 xa0_1 a1 xa2 xa3 = ncode a0_0 xa0_1 (start a0_0 a1 ∧ xa2.length = xa0_1.length ∧ Side a0_0 xa3) := rfl
          rw [e0, e1]
          have e2 := ncode_ne hc
          have PS := Lib.hid hpp
          clear e0 e1 hc hpp hps hpd hl0 hl2
          generalize hC : ncode a0_0 xa0_1 (start a0_0 a1 ∧ xa2.length = xa0_1.length ∧ Side a0_0 xa3) = C at *
          have E := Lib.hid hC
          clear hC
          go_enter Try.func25, Try.ntmps25
          go_wp2_with fail
          refine (canStart_w _ _ _ _ _ _ true VS.out).mono ?_
          rintro e1 W1 ⟨rfl, b1⟩
          have s1 : w.heap.size < W1.heap.size := by have := b1.size; simp at this; omega
          have d1 : Below w.heap.size w W1 := (by repeat (first | assumption | exact Below.refl _ _ | (refine Below.trans ?_ (b1.mono (by first | omega | (simp; done) | (simp; omega)))) | (refine Below.setCell ?_ (by first | omega | (simp; done) | (simp; omega)) _) | apply below_drewN | apply Below.drew | (refine Below.alloc ?_ (by first | omega | (simp; done) | (simp; omega)) _)))
          obtain ⟨k1, f1⟩ := bcell b1
          have z0 : W1.cell? ⟨w.heap.size, 0, none⟩ = some (.int .i64 a0_0) := (by rw [k1 _ _ (by first | omega | (simp; done) | (simp; omega))]; first | (simp; done) | go_simp); have zf0 : W1.frozen? ⟨w.heap.size, 0, none⟩ = false := (by rw [f1 _ _ (by first | omega | (simp; done) | (simp; omega))]; first | (simp; done) | go_simp); have z1 : W1.cell? ⟨w.heap.size, 1, none⟩ = some (.slice a0_1 la2 ca0_1) := (by rw [k1 _ _ (by first | omega | (simp; done) | (simp; omega))]; first | (simp; done) | go_simp); have zf1 : W1.frozen? ⟨w.heap.size, 1, none⟩ = false := (by rw [f1 _ _ (by first | omega | (simp; done) | (simp; omega))]; first | (simp; done) | go_simp)
          clear k1 f1
          go_wp2_with fail
          refine (hasSide_t _ _ _ _ _ _ _ xa3 _ ha3 ((RC.out.below d1).mono (by first | omega | (simp; done) | (simp; omega))) true VD.out).mono ?_
          rintro e2 W2 ⟨rfl, b2⟩
          have s2 : w.heap.size < W2.heap.size := by have := b2.size; omega
          have d2 : Below w.heap.size w W2 := (by repeat (first | assumption | exact Below.refl _ _ | (refine Below.trans ?_ (b2.mono (by first | omega | (simp; done) | (simp; omega)))) | (refine Below.trans ?_ (d1.mono (by first | omega | (simp; done) | (simp; omega)))) | (refine Below.setCell ?_ (by first | omega | (simp; done) | (simp; omega)) _) | apply below_drewN | apply Below.drew | (refine Below.alloc ?_ (by first | omega | (simp; done) | (simp; omega)) _)))
          have y0 : W2.cell? ⟨w.heap.size, 0, none⟩ = _ := (b2.cell (p := ⟨w.heap.size, 0, none⟩) (show w.heap.size < _ from (by first | omega | (simp; done) | (simp; omega)))).trans z0; have yf0 : W2.frozen? ⟨w.heap.size, 0, none⟩ = _ := (b2.frozen (p := ⟨w.heap.size, 0, none⟩) (show w.heap.size < _ from (by first | omega | (simp; done) | (simp; omega)))).trans zf0; have y1 : W2.cell? ⟨w.heap.size, 1, none⟩ = _ := (b2.cell (p := ⟨w.heap.size, 1, none⟩) (show w.heap.size < _ from (by first | omega | (simp; done) | (simp; omega)))).trans z1; have yf1 : W2.frozen? ⟨w.heap.size, 1, none⟩ = _ := (b2.frozen (p := ⟨w.heap.size, 1, none⟩) (show w.heap.size < _ from (by first | omega | (simp; done) | (simp; omega)))).trans zf1
          go_wp2_with fail
          refine (netCode_t _ _ _ _ xa0_1 _ (start a0_0 a1 ∧ xa2.length = xa0_1.length ∧ Side a0_0 xa3) _ ha0_1 ((RA.out.below d2).mono (by first | omega | (simp; done) | (simp; omega))) PS.out).mono ?_
          rintro e9 W3 ⟨rfl, b3⟩
          rw [E.out]
          have s3 : w.heap.size < W3.heap.size := by have := b3.size; omega
          have d3 : Below w.heap.size w W3 := (by repeat (first | assumption | exact Below.refl _ _ | (refine Below.trans ?_ (b3.mono (by first | omega | (simp; done) | (simp; omega)))) | (refine Below.trans ?_ (d2.mono (by first | omega | (simp; done) | (simp; omega)))) | (refine Below.setCell ?_ (by first | omega | (simp; done) | (simp; omega)) _) | apply below_drewN | apply Below.drew | (refine Below.alloc ?_ (by first | omega | (simp; done) | (simp; omega)) _)))
          have x0 : W3.cell? ⟨w.heap.size, 0, none⟩ = _ := (b3.cell (p := ⟨w.heap.size, 0, none⟩) (show w.heap.size < _ from (by first | omega | (simp; done) | (simp; omega)))).trans y0; have xf0 : W3.frozen? ⟨w.heap.size, 0, none⟩ = _ := (b3.frozen (p := ⟨w.heap.size, 0, none⟩) (show w.heap.size < _ from (by first | omega | (simp; done) | (simp; omega)))).trans yf0; have x1 : W3.cell? ⟨w.heap.size, 1, none⟩ = _ := (b3.cell (p := ⟨w.heap.size, 1, none⟩) (show w.heap.size < _ from (by first | omega | (simp; done) | (simp; omega)))).trans y1; have xf1 : W3.frozen? ⟨w.heap.size, 1, none⟩ = _ := (b3.frozen (p := ⟨w.heap.size, 1, none⟩) (show w.heap.size < _ from (by first | omega | (simp; done) | (simp; omega)))).trans yf1
          go_wp2
          go_ret2
          exact ⟨rfl, d3⟩
    · have h0 : ((la2 : Int) == (la0_1 : Int)) = false := by simp; omega
      have hne : ¬ xa2.length = xa0_1.length := fun h => hm (by rw [← hl0, ← hl2, h])
      have hpp : NetOk a0_0 xa0_1 → false = decide (start a0_0 a1 ∧ xa2.length = xa0_1.length ∧ Side a0_0 xa3) := fun h => (decide_eq_false (fun g => hne g.2.1)).symm
      have hc : ¬ (NetOk a0_0 xa0_1 ∧ (start a0_0 a1 ∧ xa2.length = xa0_1.length ∧ Side a0_0 xa3)) := fun g => hne g.2.2.1
      clear hne hm
      have e0 := fp_no (a0_0 := a0_0) (xa0_1 := xa0_1) (a1 := a1) (xa2 := xa2) (xa3 := xa3) hc
      have e1 : r1_FlowProof a0_0 xa0_1 a1 xa2 xa3 = ncode a0_0 xa0_1 (start a0_0 a1 ∧ xa2.length = xa0_1.length ∧ Side a0_0 xa3) := rfl
      rw [e0, e1]
      have e2 := ncode_ne hc
      have PS := Lib.hid hpp
      clear e0 e1 hc hpp hps hpd hl0 hl2
      generalize hC : ncode a0_0 xa0_1 (start a0_0 a1 ∧ xa2.length = xa0_1.length ∧ Side a0_0 xa3) = C at *
      have E := Lib.hid hC
      clear hC
      go_enter Try.func25, Try.ntmps25
      go_wp2_with fail
      refine (canStart_w _ _ _ _ _ _ true VS.out).mono ?_
      rintro e1 W1 ⟨rfl, b1⟩
      have s1 : w.heap.size < W1.heap.size := by have := b1.size; simp at this; omega
      have d1 : Below w.heap.size w W1 := (by repeat (first | assumption | exact Below.refl _ _ | (refine Below.trans ?_ (b1.mono (by first | omega | (simp; done) | (simp; omega)))) | (refine Below.setCell ?_ (by first | omega | (simp; done) | (simp; omega)) _) | apply below_drewN | apply Below.drew | (refine Below.alloc ?_ (by first | omega | (simp; done) | (simp; omega)) _)))
      obtain ⟨k1, f1⟩ := bcell b1
      have z0 : W1.cell? ⟨w.heap.size, 0, none⟩ = some (.int .i64 a0_0) := (by rw [k1 _ _ (by first | omega | (simp; done) | (simp; omega))]; first | (simp; done) | go_simp); have zf0 : W1.frozen? ⟨w.heap.size, 0, none⟩ = false := (by rw [f1 _ _ (by first | omega | (simp; done) | (simp; omega))]; first | (simp; done) | go_simp); have z1 : W1.cell? ⟨w.heap.size, 1, none⟩ = some (.slice a0_1 la0_1 ca0_1) := (by rw [k1 _ _ (by first | omega | (simp; done) | (simp; omega))]; first | (simp; done) | go_simp); have zf1 : W1.frozen? ⟨w.heap.size, 1, none⟩ = false := (by rw [f1 _ _ (by first | omega | (simp; done) | (simp; omega))]; first | (simp; done) | go_simp)
      clear k1 f1
      go_wp2_with fail
      refine (netCode_t _ _ _ _ xa0_1 _ (start a0_0 a1 ∧ xa2.length = xa0_1.length ∧ Side a0_0 xa3) _ ha0_1 ((RA.out.below d1).mono (by first | omega | (simp; done) | (simp; omega))) PS.out).mono ?_
      rintro e9 W3 ⟨rfl, b3⟩
      rw [E.out]
      have s3 : w.heap.size < W3.heap.size := by have := b3.size; omega
      have d3 : Below w.heap.size w W3 := (by repeat (first | assumption | exact Below.refl _ _ | (refine Below.trans ?_ (b3.mono (by first | omega | (simp; done) | (simp; omega)))) | (refine Below.trans ?_ (d1.mono (by first | omega | (simp; done) | (simp; omega)))) | (refine Below.setCell ?_ (by first | omega | (simp; done) | (simp; omega)) _) | apply below_drewN | apply Below.drew | (refine Below.alloc ?_ (by first | omega | (simp; done) | (simp; omega)) _)))
      have x0 : W3.cell? ⟨w.heap.size, 0, none⟩ = _ := (b3.cell (p := ⟨w.heap.size, 0, none⟩) (show w.heap.size < _ from (by first | omega | (simp; done) | (simp; omega)))).trans z0; have xf0 : W3.frozen? ⟨w.heap.size, 0, none⟩ = _ := (b3.frozen (p := ⟨w.heap.size, 0, none⟩) (show w.heap.size < _ from (by first | omega | (simp; done) | (simp; omega)))).trans zf0; have x1 : W3.cell? ⟨w.heap.size, 1, none⟩ = _ := (b3.cell (p := ⟨w.heap.size, 1, none⟩) (show w.heap.size < _ from (by first | omega | (simp; done) | (simp; omega)))).trans z1; have xf1 : W3.frozen? ⟨w.heap.size, 1, none⟩ = _ := (b3.frozen (p := ⟨w.heap.size, 1, none⟩) (show w.heap.size < _ from (by first | omega | (simp; done) | (simp; omega)))).trans zf1
      go_wp2
      go_ret2
      exact ⟨rfl, d3⟩

end Go.Proofs.Ytlibmlbefboolaa
