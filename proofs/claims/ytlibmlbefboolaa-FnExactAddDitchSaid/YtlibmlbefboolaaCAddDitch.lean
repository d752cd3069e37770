import Derived.Test.YtlibmlbefboolaaNetC
import Derived.Test.YtlibmlbefboolaaCatDitch
namespace Go.Proofs.Ytlibmlbefboolaa
open Go.RowKit

def r0_AddDitch (a0_0 : Int) (xa0_1 : List RDitch) (a1_0 : Int) (a1_1 : Int) (a1_2 : Int) : Int := if NetOk a0_0 xa0_1 ∧ DOk a0_0 ⟨a1_0, a1_1, a1_2⟩ ∧ ¬ xa0_1.length = 20 then a0_0 else 0
def r1_AddDitch (a0_0 : Int) (xa0_1 : List RDitch) (a1_0 : Int) (a1_1 : Int) (a1_2 : Int) : List RDitch := if NetOk a0_0 xa0_1 ∧ DOk a0_0 ⟨a1_0, a1_1, a1_2⟩ ∧ ¬ xa0_1.length = 20 then xa0_1 ++ [⟨a1_0, a1_1, a1_2⟩] else []
def r2_AddDitch (a0_0 : Int) (xa0_1 : List RDitch) (a1_0 : Int) (a1_1 : Int) (a1_2 : Int) : Int := if NetOk a0_0 xa0_1 ∧ DOk a0_0 ⟨a1_0, a1_1, a1_2⟩ ∧ xa0_1.length = 20 then 5 else ncode a0_0 xa0_1 (DOk a0_0 ⟨a1_0, a1_1, a1_2⟩)
theorem len_r1_AddDitch (a0_0 : Int) (xa0_1 : List RDitch) (a1_0 : Int) (a1_1 : Int) (a1_2 : Int) : (r1_AddDitch a0_0 xa0_1 a1_0 a1_1 a1_2).length ≤ 1048576 := by
  unfold r1_AddDitch
  split
  · rename_i h
    have := h.1.2.1
    simp
    omega
  · simp
section
variable {J : Int} {xs : List RDitch} {x0 x1 x2 : Int}
theorem ad_ok (h : NetOk J xs ∧ DOk J ⟨x0, x1, x2⟩ ∧ ¬ xs.length = 20) : r0_AddDitch J xs x0 x1 x2 = J ∧ r1_AddDitch J xs x0 x1 x2 = xs ++ [⟨x0, x1, x2⟩] ∧ r2_AddDitch J xs x0 x1 x2 = 0 :=
  ⟨if_pos h, if_pos h, by unfold r2_AddDitch; rw [if_neg (fun g => h.2.2 g.2.2)]; exact ncode_ok h.1 h.2.1⟩
theorem ad_full (h : NetOk J xs ∧ DOk J ⟨x0, x1, x2⟩ ∧ xs.length = 20) : r0_AddDitch J xs x0 x1 x2 = 0 ∧ r1_AddDitch J xs x0 x1 x2 = [] ∧ r2_AddDitch J xs x0 x1 x2 = 5 :=
  ⟨if_neg (fun g => g.2.2 h.2.2), if_neg (fun g => g.2.2 h.2.2), if_pos h⟩
theorem ad_no (h : ¬ (NetOk J xs ∧ DOk J ⟨x0, x1, x2⟩)) : r0_AddDitch J xs x0 x1 x2 = 0 ∧ r1_AddDitch J xs x0 x1 x2 = [] ∧ r2_AddDitch J xs x0 x1 x2 = ncode J xs (DOk J ⟨x0, x1, x2⟩) :=
  ⟨if_neg (fun g => h ⟨g.1, g.2.1⟩), if_neg (fun g => h ⟨g.1, g.2.1⟩), if_neg (fun g => h ⟨g.1, g.2.1⟩)⟩
theorem wr_nil (w : World) (b : Nat) : Wr_Ditch w b none ([] : List RDitch).length [] := ⟨rfl, fun h => absurd h (by simp)⟩
end

set_option maxHeartbeats 3200000 in
theorem specC_AddDitch (a0_0 : Int) (a0_1 : Option Addr) (la0_1 ca0_1 : Nat) (xa0_1 : List RDitch) (a1_0 : Int) (a1_1 : Int) (a1_2 : Int) (w : World) (ha0_0 : (Lit.int .i64 a0_0).wf = true) (ha0_1 : la0_1 ≤ 1048576) (ra0_1 : Rd_Ditch w w.heap.size a0_1 la0_1 xa0_1) (fa0_1 : Wf_Ditch xa0_1) (ha1_0 : (Lit.int .i64 a1_0).wf = true) (ha1_1 : (Lit.int .i64 a1_1).wf = true) (ha1_2 : (Lit.int .i64 a1_2).wf = true) :
    Calls Try.prog 9 #[.agg #[.int .i64 a0_0, .slice a0_1 la0_1 ca0_1], .agg #[.int .i64 a1_0, .int .i64 a1_1, .int .i64 a1_2]] w fun e w' => ∃ B0 dB0, e = .returned (.tuple #[.agg #[.int .i64 (r0_AddDitch a0_0 xa0_1 a1_0 a1_1 a1_2), .slice B0 (r1_AddDitch a0_0 xa0_1 a1_0 a1_1 a1_2).length dB0], .int .i64 (r2_AddDitch a0_0 xa0_1 a1_0 a1_1 a1_2)]) ∧ Below w.heap.size w w' ∧ Wr_Ditch w' w.heap.size B0 (r1_AddDitch a0_0 xa0_1 a1_0 a1_1 a1_2).length (r1_AddDitch a0_0 xa0_1 a1_0 a1_1 a1_2) := by
  have hl0 := ra0_1.len
  have RA := Lib.hid ra0_1
  clear ra0_1
  by_cases hv : NetOk a0_0 xa0_1
  · have HV := Lib.hid hv
    have hJ := hv.1
    have hlen := hv.2.1
    by_cases hd : DOk a0_0 ⟨a1_0, a1_1, a1_2⟩
    · have hd' : true = decide (DOk a0_0 ⟨a1_0, a1_1, a1_2⟩) := (decide_eq_true hd).symm
      have HD := Lib.hid hd'
      clear hd'
      by_cases hf : xa0_1.length = 20
      · obtain ⟨e0, e1, e2⟩ := ad_full ⟨hv, hd, hf⟩
        rw [e0, e1, e2]
        obtain rfl : la0_1 = 20 := by omega
        clear e0 e1 e2 hd hf hl0 hv hlen
        go_enter Try.func9, Try.ntmps9
        go_wp2_with (go_at_call 27; refine (l04Ok_any _ a0_0 a0_1 20 ca0_1 xa0_1 _ (by first | omega | (simp; done) | (simp; omega)) ha0_1 ⟨by go_simp, by go_simp⟩ ((RA.out.below (by repeat (first | assumption | exact Below.refl _ _ | (refine Below.setCell ?_ (by first | omega | (simp; done) | (simp; omega)) _) | apply below_drewN | apply Below.drew | (refine Below.alloc ?_ (by first | omega | (simp; done) | (simp; omega)) _)))).mono (by first | omega | (simp; done) | (simp; omega))) true (by simp [HV.out])).mono ?_; rintro e w1 ⟨rfl, b1⟩; have s1 : w.heap.size + 2 < w1.heap.size := (by have := b1.size; simp at this; omega); obtain ⟨k1, f1⟩ := bcell b1; have z0 : w1.cell? ⟨w.heap.size, 0, none⟩ = some (.int .i64 a0_0) := (by rw [k1 _ _ (by first | omega | (simp; done) | (simp; omega))]; first | (simp; done) | go_simp); have zf0 : w1.frozen? ⟨w.heap.size, 0, none⟩ = false := (by rw [f1 _ _ (by first | omega | (simp; done) | (simp; omega))]; first | (simp; done) | go_simp); have z1 : w1.cell? ⟨w.heap.size, 1, none⟩ = some (.slice a0_1 20 ca0_1) := (by rw [k1 _ _ (by first | omega | (simp; done) | (simp; omega))]; first | (simp; done) | go_simp); have zf1 : w1.frozen? ⟨w.heap.size, 1, none⟩ = false := (by rw [f1 _ _ (by first | omega | (simp; done) | (simp; omega))]; first | (simp; done) | go_simp); have y0 : w1.cell? ⟨w.heap.size + 1, 0, none⟩ = some (.int .i64 a1_0) := (by rw [k1 _ _ (by first | omega | (simp; done) | (simp; omega))]; first | (simp; done) | go_simp); have yf0 : w1.frozen? ⟨w.heap.size + 1, 0, none⟩ = false := (by rw [f1 _ _ (by first | omega | (simp; done) | (simp; omega))]; first | (simp; done) | go_simp); have y1 : w1.cell? ⟨w.heap.size + 1, 1, none⟩ = some (.int .i64 a1_1) := (by rw [k1 _ _ (by first | omega | (simp; done) | (simp; omega))]; first | (simp; done) | go_simp); have yf1 : w1.frozen? ⟨w.heap.size + 1, 1, none⟩ = false := (by rw [f1 _ _ (by first | omega | (simp; done) | (simp; omega))]; first | (simp; done) | go_simp); have y2 : w1.cell? ⟨w.heap.size + 1, 2, none⟩ = some (.int .i64 a1_2) := (by rw [k1 _ _ (by first | omega | (simp; done) | (simp; omega))]; first | (simp; done) | go_simp); have yf2 : w1.frozen? ⟨w.heap.size + 1, 2, none⟩ = false := (by rw [f1 _ _ (by first | omega | (simp; done) | (simp; omega))]; first | (simp; done) | go_simp); have x0 : w1.cell? ⟨w.heap.size + 2, 0, none⟩ = some (.int .i64 0) := (by rw [k1 _ _ (by first | omega | (simp; done) | (simp; omega))]; first | (simp; done) | go_simp); have xf0 : w1.frozen? ⟨w.heap.size + 2, 0, none⟩ = false := (by rw [f1 _ _ (by first | omega | (simp; done) | (simp; omega))]; first | (simp; done) | go_simp); have x1 : w1.cell? ⟨w.heap.size + 2, 1, none⟩ = some (.slice none 0 0) := (by rw [k1 _ _ (by first | omega | (simp; done) | (simp; omega))]; first | (simp; done) | go_simp); have xf1 : w1.frozen? ⟨w.heap.size + 2, 1, none⟩ = false := (by rw [f1 _ _ (by first | omega | (simp; done) | (simp; omega))]; first | (simp; done) | go_simp); clear k1 f1; have d1 : Below w.heap.size w w1 := (by repeat (first | assumption | exact Below.refl _ _ | (refine Below.trans ?_ (b1.mono (by first | omega | (simp; done) | (simp; omega)))) | (refine Below.setCell ?_ (by first | omega | (simp; done) | (simp; omega)) _) | apply below_drewN | apply Below.drew | (refine Below.alloc ?_ (by first | omega | (simp; done) | (simp; omega)) _))))
        go_wp2_with (go_at_call 28; refine (l04One_any _ _ _ _ _ hJ true HD.out).mono ?_; rintro e w2 ⟨rfl, b2⟩; have s2 : w.heap.size + 2 < w2.heap.size := (by have := b2.size; omega); have p0 : w2.cell? ⟨w.heap.size, 0, none⟩ = _ := (b2.cell (p := ⟨w.heap.size, 0, none⟩) (show w.heap.size < _ from (by first | omega | (simp; done) | (simp; omega)))).trans z0; have pf0 : w2.frozen? ⟨w.heap.size, 0, none⟩ = _ := (b2.frozen (p := ⟨w.heap.size, 0, none⟩) (show w.heap.size < _ from (by first | omega | (simp; done) | (simp; omega)))).trans zf0; have p1 : w2.cell? ⟨w.heap.size, 1, none⟩ = _ := (b2.cell (p := ⟨w.heap.size, 1, none⟩) (show w.heap.size < _ from (by first | omega | (simp; done) | (simp; omega)))).trans z1; have pf1 : w2.frozen? ⟨w.heap.size, 1, none⟩ = _ := (b2.frozen (p := ⟨w.heap.size, 1, none⟩) (show w.heap.size < _ from (by first | omega | (simp; done) | (simp; omega)))).trans zf1; have r0 : w2.cell? ⟨w.heap.size + 1, 0, none⟩ = _ := (b2.cell (p := ⟨w.heap.size + 1, 0, none⟩) (show w.heap.size + 1 < _ from (by first | omega | (simp; done) | (simp; omega)))).trans y0; have rf0 : w2.frozen? ⟨w.heap.size + 1, 0, none⟩ = _ := (b2.frozen (p := ⟨w.heap.size + 1, 0, none⟩) (show w.heap.size + 1 < _ from (by first | omega | (simp; done) | (simp; omega)))).trans yf0; have r1 : w2.cell? ⟨w.heap.size + 1, 1, none⟩ = _ := (b2.cell (p := ⟨w.heap.size + 1, 1, none⟩) (show w.heap.size + 1 < _ from (by first | omega | (simp; done) | (simp; omega)))).trans y1; have rf1 : w2.frozen? ⟨w.heap.size + 1, 1, none⟩ = _ := (b2.frozen (p := ⟨w.heap.size + 1, 1, none⟩) (show w.heap.size + 1 < _ from (by first | omega | (simp; done) | (simp; omega)))).trans yf1; have r2 : w2.cell? ⟨w.heap.size + 1, 2, none⟩ = _ := (b2.cell (p := ⟨w.heap.size + 1, 2, none⟩) (show w.heap.size + 1 < _ from (by first | omega | (simp; done) | (simp; omega)))).trans y2; have rf2 : w2.frozen? ⟨w.heap.size + 1, 2, none⟩ = _ := (b2.frozen (p := ⟨w.heap.size + 1, 2, none⟩) (show w.heap.size + 1 < _ from (by first | omega | (simp; done) | (simp; omega)))).trans yf2; have q0 : w2.cell? ⟨w.heap.size + 2, 0, none⟩ = _ := (b2.cell (p := ⟨w.heap.size + 2, 0, none⟩) (show w.heap.size + 2 < _ from (by first | omega | (simp; done) | (simp; omega)))).trans x0; have qf0 : w2.frozen? ⟨w.heap.size + 2, 0, none⟩ = _ := (b2.frozen (p := ⟨w.heap.size + 2, 0, none⟩) (show w.heap.size + 2 < _ from (by first | omega | (simp; done) | (simp; omega)))).trans xf0; have q1 : w2.cell? ⟨w.heap.size + 2, 1, none⟩ = _ := (b2.cell (p := ⟨w.heap.size + 2, 1, none⟩) (show w.heap.size + 2 < _ from (by first | omega | (simp; done) | (simp; omega)))).trans x1; have qf1 : w2.frozen? ⟨w.heap.size + 2, 1, none⟩ = _ := (b2.frozen (p := ⟨w.heap.size + 2, 1, none⟩) (show w.heap.size + 2 < _ from (by first | omega | (simp; done) | (simp; omega)))).trans xf1; have d2 : Below w.heap.size w w2 := (by repeat (first | assumption | exact Below.refl _ _ | (refine Below.trans ?_ (b2.mono (by first | omega | (simp; done) | (simp; omega)))) | (refine Below.trans ?_ (d1.mono (by first | omega | (simp; done) | (simp; omega)))) | (refine Below.setCell ?_ (by first | omega | (simp; done) | (simp; omega)) _) | apply below_drewN | apply Below.drew | (refine Below.alloc ?_ (by first | omega | (simp; done) | (simp; omega)) _))))
        exact bodyPost_ret (v := .tuple #[.agg #[.int .i64 0, .slice none 0 0], .int .i64 5]) (by simp [results, Try.results9, go_sem, q0, q1, qf0, qf1]) rfl ⟨none, 0, rfl, (by repeat (first | assumption | exact Below.refl _ _ | (refine Below.trans ?_ (d2.mono (by first | omega | (simp; done) | (simp; omega)))) | (refine Below.setCell ?_ (by first | omega | (simp; done) | (simp; omega)) _) | apply below_drewN | apply Below.drew | (refine Below.alloc ?_ (by first | omega | (simp; done) | (simp; omega)) _))), wr_nil _ _⟩
      · obtain ⟨e0, e1, e2⟩ := ad_ok ⟨hv, hd, hf⟩
        rw [e0, e1, e2]
        have hlt : la0_1 < 20 := by omega
        have N1 := Lib.hid (show 0 + la0_1 ≤ 4194304 by omega)
        have N2 := Lib.hid (show 0 + la0_1 + 1 ≤ 4194304 by omega)
        have HL := Lib.hid hl0
        clear e0 e1 e2 hd hf hl0 hv hlen
        go_enter Try.func9, Try.ntmps9
        go_wp2_with (go_at_call 27; refine (l04Ok_any _ a0_0 a0_1 la0_1 ca0_1 xa0_1 _ (by first | omega | (simp; done) | (simp; omega)) ha0_1 ⟨by go_simp, by go_simp⟩ ((RA.out.below (by repeat (first | assumption | exact Below.refl _ _ | (refine Below.setCell ?_ (by first | omega | (simp; done) | (simp; omega)) _) | apply below_drewN | apply Below.drew | (refine Below.alloc ?_ (by first | omega | (simp; done) | (simp; omega)) _)))).mono (by first | omega | (simp; done) | (simp; omega))) true (by simp [HV.out])).mono ?_; rintro e w1 ⟨rfl, b1⟩; have s1 : w.heap.size + 2 < w1.heap.size := (by have := b1.size; simp at this; omega); obtain ⟨k1, f1⟩ := bcell b1; have z0 : w1.cell? ⟨w.heap.size, 0, none⟩ = some (.int .i64 a0_0) := (by rw [k1 _ _ (by first | omega | (simp; done) | (simp; omega))]; first | (simp; done) | go_simp); have zf0 : w1.frozen? ⟨w.heap.size, 0, none⟩ = false := (by rw [f1 _ _ (by first | omega | (simp; done) | (simp; omega))]; first | (simp; done) | go_simp); have z1 : w1.cell? ⟨w.heap.size, 1, none⟩ = some (.slice a0_1 la0_1 ca0_1) := (by rw [k1 _ _ (by first | omega | (simp; done) | (simp; omega))]; first | (simp; done) | go_simp); have zf1 : w1.frozen? ⟨w.heap.size, 1, none⟩ = false := (by rw [f1 _ _ (by first | omega | (simp; done) | (simp; omega))]; first | (simp; done) | go_simp); have y0 : w1.cell? ⟨w.heap.size + 1, 0, none⟩ = some (.int .i64 a1_0) := (by rw [k1 _ _ (by first | omega | (simp; done) | (simp; omega))]; first | (simp; done) | go_simp); have yf0 : w1.frozen? ⟨w.heap.size + 1, 0, none⟩ = false := (by rw [f1 _ _ (by first | omega | (simp; done) | (simp; omega))]; first | (simp; done) | go_simp); have y1 : w1.cell? ⟨w.heap.size + 1, 1, none⟩ = some (.int .i64 a1_1) := (by rw [k1 _ _ (by first | omega | (simp; done) | (simp; omega))]; first | (simp; done) | go_simp); have yf1 : w1.frozen? ⟨w.heap.size + 1, 1, none⟩ = false := (by rw [f1 _ _ (by first | omega | (simp; done) | (simp; omega))]; first | (simp; done) | go_simp); have y2 : w1.cell? ⟨w.heap.size + 1, 2, none⟩ = some (.int .i64 a1_2) := (by rw [k1 _ _ (by first | omega | (simp; done) | (simp; omega))]; first | (simp; done) | go_simp); have yf2 : w1.frozen? ⟨w.heap.size + 1, 2, none⟩ = false := (by rw [f1 _ _ (by first | omega | (simp; done) | (simp; omega))]; first | (simp; done) | go_simp); have x0 : w1.cell? ⟨w.heap.size + 2, 0, none⟩ = some (.int .i64 0) := (by rw [k1 _ _ (by first | omega | (simp; done) | (simp; omega))]; first | (simp; done) | go_simp); have xf0 : w1.frozen? ⟨w.heap.size + 2, 0, none⟩ = false := (by rw [f1 _ _ (by first | omega | (simp; done) | (simp; omega))]; first | (simp; done) | go_simp); have x1 : w1.cell? ⟨w.heap.size + 2, 1, none⟩ = some (.slice none 0 0) := (by rw [k1 _ _ (by first | omega | (simp; done) | (simp; omega))]; first | (simp; done) | go_simp); have xf1 : w1.frozen? ⟨w.heap.size + 2, 1, none⟩ = false := (by rw [f1 _ _ (by first | omega | (simp; done) | (simp; omega))]; first | (simp; done) | go_simp); clear k1 f1; have d1 : Below w.heap.size w w1 := (by repeat (first | assumption | exact Below.refl _ _ | (refine Below.trans ?_ (b1.mono (by first | omega | (simp; done) | (simp; omega)))) | (refine Below.setCell ?_ (by first | omega | (simp; done) | (simp; omega)) _) | apply below_drewN | apply Below.drew | (refine Below.alloc ?_ (by first | omega | (simp; done) | (simp; omega)) _))))
        go_wp2_with fail
        refine (l04One_any _ _ _ _ _ hJ true HD.out).mono ?_
        rintro e w2 ⟨rfl, b2⟩
        have s2 : w.heap.size + 2 < w2.heap.size := (by have := b2.size; omega)
        have p0 : w2.cell? ⟨w.heap.size, 0, none⟩ = _ := (b2.cell (p := ⟨w.heap.size, 0, none⟩) (show w.heap.size < _ from (by first | omega | (simp; done) | (simp; omega)))).trans z0; have pf0 : w2.frozen? ⟨w.heap.size, 0, none⟩ = _ := (b2.frozen (p := ⟨w.heap.size, 0, none⟩) (show w.heap.size < _ from (by first | omega | (simp; done) | (simp; omega)))).trans zf0; have p1 : w2.cell? ⟨w.heap.size, 1, none⟩ = _ := (b2.cell (p := ⟨w.heap.size, 1, none⟩) (show w.heap.size < _ from (by first | omega | (simp; done) | (simp; omega)))).trans z1; have pf1 : w2.frozen? ⟨w.heap.size, 1, none⟩ = _ := (b2.frozen (p := ⟨w.heap.size, 1, none⟩) (show w.heap.size < _ from (by first | omega | (simp; done) | (simp; omega)))).trans zf1
        have r0 : w2.cell? ⟨w.heap.size + 1, 0, none⟩ = _ := (b2.cell (p := ⟨w.heap.size + 1, 0, none⟩) (show w.heap.size + 1 < _ from (by first | omega | (simp; done) | (simp; omega)))).trans y0; have rf0 : w2.frozen? ⟨w.heap.size + 1, 0, none⟩ = _ := (b2.frozen (p := ⟨w.heap.size + 1, 0, none⟩) (show w.heap.size + 1 < _ from (by first | omega | (simp; done) | (simp; omega)))).trans yf0; have r1 : w2.cell? ⟨w.heap.size + 1, 1, none⟩ = _ := (b2.cell (p := ⟨w.heap.size + 1, 1, none⟩) (show w.heap.size + 1 < _ from (by first | omega | (simp; done) | (simp; omega)))).trans y1; have rf1 : w2.frozen? ⟨w.heap.size + 1, 1, none⟩ = _ := (b2.frozen (p := ⟨w.heap.size + 1, 1, none⟩) (show w.heap.size + 1 < _ from (by first | omega | (simp; done) | (simp; omega)))).trans yf1; have r2 : w2.cell? ⟨w.heap.size + 1, 2, none⟩ = _ := (b2.cell (p := ⟨w.heap.size + 1, 2, none⟩) (show w.heap.size + 1 < _ from (by first | omega | (simp; done) | (simp; omega)))).trans y2; have rf2 : w2.frozen? ⟨w.heap.size + 1, 2, none⟩ = _ := (b2.frozen (p := ⟨w.heap.size + 1, 2, none⟩) (show w.heap.size + 1 < _ from (by first | omega | (simp; done) | (simp; omega)))).trans yf2
        have q0 : w2.cell? ⟨w.heap.size + 2, 0, none⟩ = _ := (b2.cell (p := ⟨w.heap.size + 2, 0, none⟩) (show w.heap.size + 2 < _ from (by first | omega | (simp; done) | (simp; omega)))).trans x0; have qf0 : w2.frozen? ⟨w.heap.size + 2, 0, none⟩ = _ := (b2.frozen (p := ⟨w.heap.size + 2, 0, none⟩) (show w.heap.size + 2 < _ from (by first | omega | (simp; done) | (simp; omega)))).trans xf0; have q1 : w2.cell? ⟨w.heap.size + 2, 1, none⟩ = _ := (b2.cell (p := ⟨w.heap.size + 2, 1, none⟩) (show w.heap.size + 2 < _ from (by first | omega | (simp; done) | (simp; omega)))).trans x1; have qf1 : w2.frozen? ⟨w.heap.size + 2, 1, none⟩ = _ := (b2.frozen (p := ⟨w.heap.size + 2, 1, none⟩) (show w.heap.size + 2 < _ from (by first | omega | (simp; done) | (simp; omega)))).trans xf1
        have d2 : Below w.heap.size w w2 := (by repeat (first | assumption | exact Below.refl _ _ | (refine Below.trans ?_ (b2.mono (by first | omega | (simp; done) | (simp; omega)))) | (refine Below.trans ?_ (d1.mono (by first | omega | (simp; done) | (simp; omega)))) | (refine Below.setCell ?_ (by first | omega | (simp; done) | (simp; omega)) _) | apply below_drewN | apply Below.drew | (refine Below.alloc ?_ (by first | omega | (simp; done) | (simp; omega)) _)))
        have s2a : w.heap.size < w2.heap.size := by omega
        have s2b : w.heap.size + 1 < w2.heap.size := by omega
        have RB := Lib.hid (RA.out.below d2)
        have SZ := Lib.hid (show w.heap.size ≤ w2.heap.size by omega)
        have HM := Lib.hid (World.ownsRow_made (base := w2.heap.size) (e := 34) (size := 3) w2 #[] 0 (Nat.le_refl _) (by simp [maxLen]) rfl)
        have HB3 := Lib.hid (RB.out.below (show Below w.heap.size w2 (w2.alloc (.cells #[] 34)) from (Below.refl _ _).alloc SZ.out _))
        go_wp2_with (at_builtin; refine wplAppDitch rfl (.tmp 21) (.tmp 23) rfl (w2.alloc (.cells #[] 34)) w2.heap.size 0 la0_1 ca0_1 w.heap.size a0_1 _ [] xa0_1 rfl HM.out rfl HB3.out N1.out (by simp) ?_; intro v1 w3 hown1 hb1 hz1)
        have HO := Lib.hid hown1
        have d3 : Below w2.heap.size w2 w3 := Below.trans ((Below.refl _ _).alloc (Nat.le_refl _) _) hb1
        have s3 : w2.heap.size < w3.heap.size := by simp at hz1; omega
        have p'0 : w3.cell? ⟨w.heap.size, 0, none⟩ = _ := (d3.cell (p := ⟨w.heap.size, 0, none⟩) (show w.heap.size < _ from (by first | omega | (simp; done) | (simp; omega)))).trans p0; have p'f0 : w3.frozen? ⟨w.heap.size, 0, none⟩ = _ := (d3.frozen (p := ⟨w.heap.size, 0, none⟩) (show w.heap.size < _ from (by first | omega | (simp; done) | (simp; omega)))).trans pf0; have p'1 : w3.cell? ⟨w.heap.size, 1, none⟩ = _ := (d3.cell (p := ⟨w.heap.size, 1, none⟩) (show w.heap.size < _ from (by first | omega | (simp; done) | (simp; omega)))).trans p1; have p'f1 : w3.frozen? ⟨w.heap.size, 1, none⟩ = _ := (d3.frozen (p := ⟨w.heap.size, 1, none⟩) (show w.heap.size < _ from (by first | omega | (simp; done) | (simp; omega)))).trans pf1
        have r'0 : w3.cell? ⟨w.heap.size + 1, 0, none⟩ = _ := (d3.cell (p := ⟨w.heap.size + 1, 0, none⟩) (show w.heap.size + 1 < _ from (by first | omega | (simp; done) | (simp; omega)))).trans r0; have r'f0 : w3.frozen? ⟨w.heap.size + 1, 0, none⟩ = _ := (d3.frozen (p := ⟨w.heap.size + 1, 0, none⟩) (show w.heap.size + 1 < _ from (by first | omega | (simp; done) | (simp; omega)))).trans rf0; have r'1 : w3.cell? ⟨w.heap.size + 1, 1, none⟩ = _ := (d3.cell (p := ⟨w.heap.size + 1, 1, none⟩) (show w.heap.size + 1 < _ from (by first | omega | (simp; done) | (simp; omega)))).trans r1; have r'f1 : w3.frozen? ⟨w.heap.size + 1, 1, none⟩ = _ := (d3.frozen (p := ⟨w.heap.size + 1, 1, none⟩) (show w.heap.size + 1 < _ from (by first | omega | (simp; done) | (simp; omega)))).trans rf1; have r'2 : w3.cell? ⟨w.heap.size + 1, 2, none⟩ = _ := (d3.cell (p := ⟨w.heap.size + 1, 2, none⟩) (show w.heap.size + 1 < _ from (by first | omega | (simp; done) | (simp; omega)))).trans r2; have r'f2 : w3.frozen? ⟨w.heap.size + 1, 2, none⟩ = _ := (d3.frozen (p := ⟨w.heap.size + 1, 2, none⟩) (show w.heap.size + 1 < _ from (by first | omega | (simp; done) | (simp; omega)))).trans rf2
        have q'0 : w3.cell? ⟨w.heap.size + 2, 0, none⟩ = _ := (d3.cell (p := ⟨w.heap.size + 2, 0, none⟩) (show w.heap.size + 2 < _ from (by first | omega | (simp; done) | (simp; omega)))).trans q0; have q'f0 : w3.frozen? ⟨w.heap.size + 2, 0, none⟩ = _ := (d3.frozen (p := ⟨w.heap.size + 2, 0, none⟩) (show w.heap.size + 2 < _ from (by first | omega | (simp; done) | (simp; omega)))).trans qf0; have q'1 : w3.cell? ⟨w.heap.size + 2, 1, none⟩ = _ := (d3.cell (p := ⟨w.heap.size + 2, 1, none⟩) (show w.heap.size + 2 < _ from (by first | omega | (simp; done) | (simp; omega)))).trans q1; have q'f1 : w3.frozen? ⟨w.heap.size + 2, 1, none⟩ = _ := (d3.frozen (p := ⟨w.heap.size + 2, 1, none⟩) (show w.heap.size + 2 < _ from (by first | omega | (simp; done) | (simp; omega)))).trans qf1
        clear hown1 hz1
        go_wp2
        refine wp_region_held_drew (S := fun w' => w'.cell? ⟨w.heap.size, 0, none⟩ = some (.int .i64 a0_0) ∧ w'.cell? ⟨w.heap.size + 1, 0, none⟩ = some (.int .i64 a1_0) ∧ w'.cell? ⟨w.heap.size + 1, 1, none⟩ = some (.int .i64 a1_1) ∧ w'.cell? ⟨w.heap.size + 1, 2, none⟩ = some (.int .i64 a1_2)) (by kernel_rfl) ⟨p'0, r'0, r'1, r'2⟩ (fun hHeld => ?_)
        ((refine wpAnyH_take (i := 0) (oi := ⟨some 25, _, _, _, _, _⟩) (v := ?_) rfl (by kernel_rfl) (by kernel_rfl) (by kernel_rfl) (fun _ _ _ h => h) (Or.inl ⟨by rfl, ?_⟩) (by assumption) ?_; rotate_left 1; (focus (intro w hSw; (try dsimp only at hSw); go_simp <;> try (first | (with_reducible rfl) | (rw [if_neg (by omega)])))); try simp only [Act.put, List.setIfInBounds_toArray, List.set_cons_zero, List.set_cons_succ]); (refine wpAnyH_take (i := 1) (oi := ⟨some 26, _, _, _, _, _⟩) (v := ?_) rfl (by kernel_rfl) (by kernel_rfl) (by kernel_rfl) (fun _ _ _ h => h) (Or.inl ⟨by rfl, ?_⟩) (by assumption) ?_; rotate_left 1; (focus (intro w hSw; (try dsimp only at hSw); go_simp <;> try (first | (with_reducible rfl) | (rw [if_neg (by omega)])))); try simp only [Act.put, List.setIfInBounds_toArray, List.set_cons_zero, List.set_cons_succ]); (refine wpAnyH_take (i := 2) (oi := ⟨some 27, _, _, _, _, _⟩) (v := ?_) rfl (by kernel_rfl) (by kernel_rfl) (by kernel_rfl) (fun _ _ _ h => h) (Or.inl ⟨by rfl, ?_⟩) (by assumption) ?_; rotate_left 1; (focus (intro w hSw; (try dsimp only at hSw); go_simp <;> try (first | (with_reducible rfl) | (rw [if_neg (by omega)])))); try simp only [Act.put, List.setIfInBounds_toArray, List.set_cons_zero, List.set_cons_succ]); (refine wpAnyH_take (i := 3) (oi := ⟨some 28, _, _, _, _, _⟩) (v := ?_) rfl (by kernel_rfl) (by kernel_rfl) (by kernel_rfl) (fun _ _ _ h => h) (Or.inl ⟨by rfl, ?_⟩) (by assumption) ?_; rotate_left 1; (focus (intro w hSw; (try dsimp only at hSw); go_simp <;> try (first | (with_reducible rfl) | (rw [if_neg (by omega)])))); try simp only [Act.put, List.setIfInBounds_toArray, List.set_cons_zero, List.set_cons_succ]))
        refine wpAnyH_ready (rs := [4]) (by kernel_rfl) (by simp) ?_
        refine AllReadyH.cons (o := ⟨some 29, _, _, _, _, _⟩) rfl (fun K hK => ?_) AllReadyH.nil
        go_simp
        have d4 : Below w2.heap.size w2 (w3.alloc (.cells #[.int .i64 a1_0, .int .i64 a1_1, .int .i64 a1_2] 34)).drew := (d3.alloc (by omega) _).drew
        have s4 : w3.heap.size + 1 = (w3.alloc (.cells #[.int .i64 a1_0, .int .i64 a1_1, .int .i64 a1_2] 34)).drew.heap.size := by show _ = (w3.alloc _).heap.size; simp
        have HO4 := Lib.hid (show (w3.alloc (.cells #[.int .i64 a1_0, .int .i64 a1_1, .int .i64 a1_2] 34)).drew.ownsRow w2.heap.size 34 3 v1 (0 + la0_1) ([] ++ csDitch xa0_1) from HO.out.alloc _)
        have HS4 := Lib.hid (one_rdDitch w3 ⟨a1_0, a1_1, a1_2⟩ 34)
        have HS4' : Hid (Rd_Ditch (w3.alloc (.cells #[.int .i64 a1_0, .int .i64 a1_1, .int .i64 a1_2] 34)).drew (w3.heap.size + 1) (some ⟨w3.heap.size, 0, none⟩) 1 [⟨a1_0, a1_1, a1_2⟩]) := HS4
        have n4 : w2.heap.size ≤ (w3.alloc (.cells #[.int .i64 a1_0, .int .i64 a1_1, .int .i64 a1_2] 34)).drew.heap.size := by omega
        generalize (w3.alloc (.cells #[.int .i64 a1_0, .int .i64 a1_1, .int .i64 a1_2] 34)).drew = w4 at d4 s4 HO4 HS4' n4 ⊢
        clear HS4 hHeld
        refine hK.out _ _ ?_ (fun hHeld => ?_)
        · exact ⟨(d4.cell (p := ⟨w.heap.size, 0, none⟩) s2a).trans p0, (d4.cell (p := ⟨w.heap.size + 1, 0, none⟩) s2b).trans r0, (d4.cell (p := ⟨w.heap.size + 1, 1, none⟩) s2b).trans r1, (d4.cell (p := ⟨w.heap.size + 1, 2, none⟩) s2b).trans r2⟩
        clear hK K
        refine wpAnyH_ready (rs := [5]) (by kernel_rfl) (by simp) ?_
        refine AllReadyH.cons (o := ⟨some 30, _, _, _, _, _⟩) rfl (fun K hK => ?_) AllReadyH.nil
        rw [if_pos (by rfl)]
        refine wpAppDitch (.tmp 27) (.tmp 29) rfl w4 w2.heap.size (0 + la0_1) 1 1 (w3.heap.size + 1) (some ⟨w3.heap.size, 0, none⟩) v1 _ [⟨a1_0, a1_1, a1_2⟩] rfl HO4.out rfl HS4'.out N2.out n4 ?_
        intro v2 w5 hown2 hb5 hz5
        have d5 : Below w2.heap.size w2 w5 := d4.trans hb5
        have hown3 : w5.ownsRow w2.heap.size 34 3 v2 (la0_1 + 1) (csDitch (xa0_1 ++ [⟨a1_0, a1_1, a1_2⟩])) := by
          rw [csDitch_app]
          rw [Nat.zero_add, List.nil_append] at hown2
          exact hown2
        obtain ⟨B, dB, rfl, hwr⟩ := own_wrDitch hown3
        have s5 : w.heap.size + 2 < w5.heap.size := by omega
        have x'0 : w5.cell? ⟨w.heap.size + 2, 0, none⟩ = _ := (d5.cell (p := ⟨w.heap.size + 2, 0, none⟩) (show w.heap.size + 2 < _ from (by first | omega | (simp; done) | (simp; omega)))).trans q0; have x'f0 : w5.frozen? ⟨w.heap.size + 2, 0, none⟩ = _ := (d5.frozen (p := ⟨w.heap.size + 2, 0, none⟩) (show w.heap.size + 2 < _ from (by first | omega | (simp; done) | (simp; omega)))).trans qf0; have x'1 : w5.cell? ⟨w.heap.size + 2, 1, none⟩ = _ := (d5.cell (p := ⟨w.heap.size + 2, 1, none⟩) (show w.heap.size + 2 < _ from (by first | omega | (simp; done) | (simp; omega)))).trans q1; have x'f1 : w5.frozen? ⟨w.heap.size + 2, 1, none⟩ = _ := (d5.frozen (p := ⟨w.heap.size + 2, 1, none⟩) (show w.heap.size + 2 < _ from (by first | omega | (simp; done) | (simp; omega)))).trans qf1
        clear hown2 hown3 hHeld
        refine hK.out _ _ ?_ (fun hHeld => ?_)
        · exact ⟨(d5.cell (p := ⟨w.heap.size, 0, none⟩) s2a).trans p0, (d5.cell (p := ⟨w.heap.size + 1, 0, none⟩) s2b).trans r0, (d5.cell (p := ⟨w.heap.size + 1, 1, none⟩) s2b).trans r1, (d5.cell (p := ⟨w.heap.size + 1, 2, none⟩) s2b).trans r2⟩
        try simp only [Act.put, List.setIfInBounds_toArray, List.set_cons_zero, List.set_cons_succ]
        clear hK K
        ((refine wpAnyH_take (i := 6) (oi := ⟨some 31, _, _, _, _, _⟩) (v := ?_) rfl (by kernel_rfl) (by kernel_rfl) (by kernel_rfl) (fun _ _ _ h => h) (Or.inl ⟨by rfl, ?_⟩) (by assumption) ?_; rotate_left 1; (focus (intro w hSw; (try dsimp only at hSw); go_simp <;> try (first | (with_reducible rfl) | (rw [if_neg (by omega)])))); try simp only [Act.put, List.setIfInBounds_toArray, List.set_cons_zero, List.set_cons_succ]))
        refine wpAnyH_ready (rs := [7]) (by kernel_rfl) (by simp) ?_
        refine AllReadyH.cons (o := ⟨none, _, _, _, _, _⟩) rfl (fun K hK => ?_) AllReadyH.nil
        go_simp
        have x0' : w5.cell? ⟨w.heap.size + 1 + 1, 0, none⟩ = some (.int .i64 0) := x'0
        have x1' : w5.cell? ⟨w.heap.size + 1 + 1, 1, none⟩ = some (.slice none 0 0) := x'1
        have t0 : ((w5.setCell ⟨w.heap.size + 1 + 1, 0, none⟩ (.int .i64 a0_0)).setCell ⟨w.heap.size + 1 + 1, 1, none⟩ (.slice B (la0_1 + 1) dB)).cell? ⟨w.heap.size + 1 + 1, 0, none⟩ = some (.int .i64 a0_0) := (World.cell?_setCell_other _ _ _ _ (by simp)).trans (World.cell?_setCell_same _ _ _ x0')
        have t1 : ((w5.setCell ⟨w.heap.size + 1 + 1, 0, none⟩ (.int .i64 a0_0)).setCell ⟨w.heap.size + 1 + 1, 1, none⟩ (.slice B (la0_1 + 1) dB)).cell? ⟨w.heap.size + 1 + 1, 1, none⟩ = some (.slice B (la0_1 + 1) dB) := World.cell?_setCell_same _ _ _ ((World.cell?_setCell_other _ _ _ _ (by simp)).trans x1')
        have hold : ∀ b o, b < w.heap.size + 1 + 1 → ((w5.setCell ⟨w.heap.size + 1 + 1, 0, none⟩ (.int .i64 a0_0)).setCell ⟨w.heap.size + 1 + 1, 1, none⟩ (.slice B (la0_1 + 1) dB)).cell? ⟨b, o, none⟩ = w5.cell? ⟨b, o, none⟩ := fun b o hb => (World.cell?_setCell_other _ _ _ _ (fun e => by injection e; omega)).trans (World.cell?_setCell_other _ _ _ _ (fun e => by injection e; omega))
        have hbl : Below w.heap.size w ((w5.setCell ⟨w.heap.size + 1 + 1, 0, none⟩ (.int .i64 a0_0)).setCell ⟨w.heap.size + 1 + 1, 1, none⟩ (.slice B (la0_1 + 1) dB)) := ((d2.trans (d5.mono (by omega))).setCell (by show w.heap.size ≤ w.heap.size + 1 + 1; omega) _).setCell (by show w.heap.size ≤ w.heap.size + 1 + 1; omega) _
        have hw6 : Wr_Ditch ((w5.setCell ⟨w.heap.size + 1 + 1, 0, none⟩ (.int .i64 a0_0)).setCell ⟨w.heap.size + 1 + 1, 1, none⟩ (.slice B (la0_1 + 1) dB)) w.heap.size B (la0_1 + 1) (xa0_1 ++ [⟨a1_0, a1_1, a1_2⟩]) := (hwr.abv (by repeat (first | exact Abv.refl _ _ | (refine Abv.setCell ?_ (by first | omega | (simp; done) | (simp; omega)) _) | apply Abv.drewN | apply Abv.drew | (refine Abv.alloc ?_ _)))).lower (by omega)
        generalize (w5.setCell ⟨w.heap.size + 1 + 1, 0, none⟩ (.int .i64 a0_0)).setCell ⟨w.heap.size + 1 + 1, 1, none⟩ (.slice B (la0_1 + 1) dB) = w6 at t0 t1 hold hbl hw6 ⊢
        clear hHeld
        refine hK.out _ _ ?_ (fun hHeld => ?_)
        · exact ⟨(hold _ _ (by omega)).trans ((d5.cell (p := ⟨w.heap.size, 0, none⟩) s2a).trans p0), (hold _ _ (by omega)).trans ((d5.cell (p := ⟨w.heap.size + 1, 0, none⟩) s2b).trans r0), (hold _ _ (by omega)).trans ((d5.cell (p := ⟨w.heap.size + 1, 1, none⟩) s2b).trans r1), (hold _ _ (by omega)).trans ((d5.cell (p := ⟨w.heap.size + 1, 2, none⟩) s2b).trans r2)⟩
        clear hK K hold
        ((refine wpAnyH_take (i := 8) (oi := ⟨some 5, _, _, _, _, _⟩) (v := ?_) rfl (by kernel_rfl) (by kernel_rfl) (by kernel_rfl) (fun _ _ _ h => h) (Or.inl ⟨by rfl, ?_⟩) (by assumption) ?_; rotate_left 1; (focus (intro w hSw; (try dsimp only at hSw); go_simp <;> try (first | (with_reducible rfl) | (rw [if_neg (by omega)])))); try simp only [Act.put, List.setIfInBounds_toArray, List.set_cons_zero, List.set_cons_succ]))
        refine wpAnyH_done (by kernel_rfl) ?_ _
        go_wp2
        exact bodyPost_ret (v := .tuple #[.agg #[.int .i64 a0_0, .slice B (la0_1 + 1) dB], .int .i64 0]) (by simp [results, Try.results9, go_sem, t0, t1]) rfl ⟨B, dB, by rw [show (xa0_1 ++ [(⟨a1_0, a1_1, a1_2⟩ : RDitch)]).length = la0_1 + 1 by simp [HL.out]], hbl, by rw [show (xa0_1 ++ [(⟨a1_0, a1_1, a1_2⟩ : RDitch)]).length = la0_1 + 1 by simp [HL.out]]; exact hw6⟩
    · obtain ⟨e0, e1, e2⟩ := ad_no (J := a0_0) (xs := xa0_1) (x0 := a1_0) (x1 := a1_1) (x2 := a1_2) (fun h => hd h.2)
      have e3 : ncode a0_0 xa0_1 (DOk a0_0 ⟨a1_0, a1_1, a1_2⟩) = 2 := ncode_no hv hd
      rw [e0, e1, e2, e3]
      have hd' : false = decide (DOk a0_0 ⟨a1_0, a1_1, a1_2⟩) := (decide_eq_false hd).symm
      have HD := Lib.hid hd'
      clear e0 e1 e2 e3 hd hd' hl0 hv hlen
      go_enter Try.func9, Try.ntmps9
      go_wp2_with (go_at_call 27; refine (l04Ok_any _ a0_0 a0_1 la0_1 ca0_1 xa0_1 _ (by first | omega | (simp; done) | (simp; omega)) ha0_1 ⟨by go_simp, by go_simp⟩ ((RA.out.below (by repeat (first | assumption | exact Below.refl _ _ | (refine Below.setCell ?_ (by first | omega | (simp; done) | (simp; omega)) _) | apply below_drewN | apply Below.drew | (refine Below.alloc ?_ (by first | omega | (simp; done) | (simp; omega)) _)))).mono (by first | omega | (simp; done) | (simp; omega))) true (by simp [HV.out])).mono ?_; rintro e w1 ⟨rfl, b1⟩; have s1 : w.heap.size + 2 < w1.heap.size := (by have := b1.size; simp at this; omega); obtain ⟨k1, f1⟩ := bcell b1; have z0 : w1.cell? ⟨w.heap.size, 0, none⟩ = some (.int .i64 a0_0) := (by rw [k1 _ _ (by first | omega | (simp; done) | (simp; omega))]; first | (simp; done) | go_simp); have zf0 : w1.frozen? ⟨w.heap.size, 0, none⟩ = false := (by rw [f1 _ _ (by first | omega | (simp; done) | (simp; omega))]; first | (simp; done) | go_simp); have z1 : w1.cell? ⟨w.heap.size, 1, none⟩ = some (.slice a0_1 la0_1 ca0_1) := (by rw [k1 _ _ (by first | omega | (simp; done) | (simp; omega))]; first | (simp; done) | go_simp); have zf1 : w1.frozen? ⟨w.heap.size, 1, none⟩ = false := (by rw [f1 _ _ (by first | omega | (simp; done) | (simp; omega))]; first | (simp; done) | go_simp); have y0 : w1.cell? ⟨w.heap.size + 1, 0, none⟩ = some (.int .i64 a1_0) := (by rw [k1 _ _ (by first | omega | (simp; done) | (simp; omega))]; first | (simp; done) | go_simp); have yf0 : w1.frozen? ⟨w.heap.size + 1, 0, none⟩ = false := (by rw [f1 _ _ (by first | omega | (simp; done) | (simp; omega))]; first | (simp; done) | go_simp); have y1 : w1.cell? ⟨w.heap.size + 1, 1, none⟩ = some (.int .i64 a1_1) := (by rw [k1 _ _ (by first | omega | (simp; done) | (simp; omega))]; first | (simp; done) | go_simp); have yf1 : w1.frozen? ⟨w.heap.size + 1, 1, none⟩ = false := (by rw [f1 _ _ (by first | omega | (simp; done) | (simp; omega))]; first | (simp; done) | go_simp); have y2 : w1.cell? ⟨w.heap.size + 1, 2, none⟩ = some (.int .i64 a1_2) := (by rw [k1 _ _ (by first | omega | (simp; done) | (simp; omega))]; first | (simp; done) | go_simp); have yf2 : w1.frozen? ⟨w.heap.size + 1, 2, none⟩ = false := (by rw [f1 _ _ (by first | omega | (simp; done) | (simp; omega))]; first | (simp; done) | go_simp); have x0 : w1.cell? ⟨w.heap.size + 2, 0, none⟩ = some (.int .i64 0) := (by rw [k1 _ _ (by first | omega | (simp; done) | (simp; omega))]; first | (simp; done) | go_simp); have xf0 : w1.frozen? ⟨w.heap.size + 2, 0, none⟩ = false := (by rw [f1 _ _ (by first | omega | (simp; done) | (simp; omega))]; first | (simp; done) | go_simp); have x1 : w1.cell? ⟨w.heap.size + 2, 1, none⟩ = some (.slice none 0 0) := (by rw [k1 _ _ (by first | omega | (simp; done) | (simp; omega))]; first | (simp; done) | go_simp); have xf1 : w1.frozen? ⟨w.heap.size + 2, 1, none⟩ = false := (by rw [f1 _ _ (by first | omega | (simp; done) | (simp; omega))]; first | (simp; done) | go_simp); clear k1 f1; have d1 : Below w.heap.size w w1 := (by repeat (first | assumption | exact Below.refl _ _ | (refine Below.trans ?_ (b1.mono (by first | omega | (simp; done) | (simp; omega)))) | (refine Below.setCell ?_ (by first | omega | (simp; done) | (simp; omega)) _) | apply below_drewN | apply Below.drew | (refine Below.alloc ?_ (by first | omega | (simp; done) | (simp; omega)) _))))
      go_wp2_with (go_at_call 28; refine (l04One_any _ _ _ _ _ hJ false HD.out).mono ?_; rintro e w2 ⟨rfl, b2⟩; have s2 : w.heap.size + 2 < w2.heap.size := (by have := b2.size; omega); have p0 : w2.cell? ⟨w.heap.size, 0, none⟩ = _ := (b2.cell (p := ⟨w.heap.size, 0, none⟩) (show w.heap.size < _ from (by first | omega | (simp; done) | (simp; omega)))).trans z0; have pf0 : w2.frozen? ⟨w.heap.size, 0, none⟩ = _ := (b2.frozen (p := ⟨w.heap.size, 0, none⟩) (show w.heap.size < _ from (by first | omega | (simp; done) | (simp; omega)))).trans zf0; have p1 : w2.cell? ⟨w.heap.size, 1, none⟩ = _ := (b2.cell (p := ⟨w.heap.size, 1, none⟩) (show w.heap.size < _ from (by first | omega | (simp; done) | (simp; omega)))).trans z1; have pf1 : w2.frozen? ⟨w.heap.size, 1, none⟩ = _ := (b2.frozen (p := ⟨w.heap.size, 1, none⟩) (show w.heap.size < _ from (by first | omega | (simp; done) | (simp; omega)))).trans zf1; have r0 : w2.cell? ⟨w.heap.size + 1, 0, none⟩ = _ := (b2.cell (p := ⟨w.heap.size + 1, 0, none⟩) (show w.heap.size + 1 < _ from (by first | omega | (simp; done) | (simp; omega)))).trans y0; have rf0 : w2.frozen? ⟨w.heap.size + 1, 0, none⟩ = _ := (b2.frozen (p := ⟨w.heap.size + 1, 0, none⟩) (show w.heap.size + 1 < _ from (by first | omega | (simp; done) | (simp; omega)))).trans yf0; have r1 : w2.cell? ⟨w.heap.size + 1, 1, none⟩ = _ := (b2.cell (p := ⟨w.heap.size + 1, 1, none⟩) (show w.heap.size + 1 < _ from (by first | omega | (simp; done) | (simp; omega)))).trans y1; have rf1 : w2.frozen? ⟨w.heap.size + 1, 1, none⟩ = _ := (b2.frozen (p := ⟨w.heap.size + 1, 1, none⟩) (show w.heap.size + 1 < _ from (by first | omega | (simp; done) | (simp; omega)))).trans yf1; have r2 : w2.cell? ⟨w.heap.size + 1, 2, none⟩ = _ := (b2.cell (p := ⟨w.heap.size + 1, 2, none⟩) (show w.heap.size + 1 < _ from (by first | omega | (simp; done) | (simp; omega)))).trans y2; have rf2 : w2.frozen? ⟨w.heap.size + 1, 2, none⟩ = _ := (b2.frozen (p := ⟨w.heap.size + 1, 2, none⟩) (show w.heap.size + 1 < _ from (by first | omega | (simp; done) | (simp; omega)))).trans yf2; have q0 : w2.cell? ⟨w.heap.size + 2, 0, none⟩ = _ := (b2.cell (p := ⟨w.heap.size + 2, 0, none⟩) (show w.heap.size + 2 < _ from (by first | omega | (simp; done) | (simp; omega)))).trans x0; have qf0 : w2.frozen? ⟨w.heap.size + 2, 0, none⟩ = _ := (b2.frozen (p := ⟨w.heap.size + 2, 0, none⟩) (show w.heap.size + 2 < _ from (by first | omega | (simp; done) | (simp; omega)))).trans xf0; have q1 : w2.cell? ⟨w.heap.size + 2, 1, none⟩ = _ := (b2.cell (p := ⟨w.heap.size + 2, 1, none⟩) (show w.heap.size + 2 < _ from (by first | omega | (simp; done) | (simp; omega)))).trans x1; have qf1 : w2.frozen? ⟨w.heap.size + 2, 1, none⟩ = _ := (b2.frozen (p := ⟨w.heap.size + 2, 1, none⟩) (show w.heap.size + 2 < _ from (by first | omega | (simp; done) | (simp; omega)))).trans xf1; have d2 : Below w.heap.size w w2 := (by repeat (first | assumption | exact Below.refl _ _ | (refine Below.trans ?_ (b2.mono (by first | omega | (simp; done) | (simp; omega)))) | (refine Below.trans ?_ (d1.mono (by first | omega | (simp; done) | (simp; omega)))) | (refine Below.setCell ?_ (by first | omega | (simp; done) | (simp; omega)) _) | apply below_drewN | apply Below.drew | (refine Below.alloc ?_ (by first | omega | (simp; done) | (simp; omega)) _))))
      exact bodyPost_ret (v := .tuple #[.agg #[.int .i64 0, .slice none 0 0], .int .i64 2]) (by simp [results, Try.results9, go_sem, q0, q1, qf0, qf1]) rfl ⟨none, 0, rfl, (by repeat (first | assumption | exact Below.refl _ _ | (refine Below.trans ?_ (d2.mono (by first | omega | (simp; done) | (simp; omega)))) | (refine Below.setCell ?_ (by first | omega | (simp; done) | (simp; omega)) _) | apply below_drewN | apply Below.drew | (refine Below.alloc ?_ (by first | omega | (simp; done) | (simp; omega)) _))), wr_nil _ _⟩
  · obtain ⟨e0, e1, e2⟩ := ad_no (J := a0_0) (xs := xa0_1) (x0 := a1_0) (x1 := a1_1) (x2 := a1_2) (fun h => hv h.1)
    have e3 : ncode a0_0 xa0_1 (DOk a0_0 ⟨a1_0, a1_1, a1_2⟩) = 1 := ncode_bad hv
    rw [e0, e1, e2, e3]
    have HV := Lib.hid hv
    clear e0 e1 e2 e3 hl0 hv
    go_enter Try.func9, Try.ntmps9
    go_wp2_with (go_at_call 27; refine (l04Ok_any _ a0_0 a0_1 la0_1 ca0_1 xa0_1 _ (by first | omega | (simp; done) | (simp; omega)) ha0_1 ⟨by go_simp, by go_simp⟩ ((RA.out.below (by repeat (first | assumption | exact Below.refl _ _ | (refine Below.setCell ?_ (by first | omega | (simp; done) | (simp; omega)) _) | apply below_drewN | apply Below.drew | (refine Below.alloc ?_ (by first | omega | (simp; done) | (simp; omega)) _)))).mono (by first | omega | (simp; done) | (simp; omega))) false (by simp [HV.out])).mono ?_; rintro e w1 ⟨rfl, b1⟩; have s1 : w.heap.size + 2 < w1.heap.size := (by have := b1.size; simp at this; omega); obtain ⟨k1, f1⟩ := bcell b1; have z0 : w1.cell? ⟨w.heap.size, 0, none⟩ = some (.int .i64 a0_0) := (by rw [k1 _ _ (by first | omega | (simp; done) | (simp; omega))]; first | (simp; done) | go_simp); have zf0 : w1.frozen? ⟨w.heap.size, 0, none⟩ = false := (by rw [f1 _ _ (by first | omega | (simp; done) | (simp; omega))]; first | (simp; done) | go_simp); have z1 : w1.cell? ⟨w.heap.size, 1, none⟩ = some (.slice a0_1 la0_1 ca0_1) := (by rw [k1 _ _ (by first | omega | (simp; done) | (simp; omega))]; first | (simp; done) | go_simp); have zf1 : w1.frozen? ⟨w.heap.size, 1, none⟩ = false := (by rw [f1 _ _ (by first | omega | (simp; done) | (simp; omega))]; first | (simp; done) | go_simp); have y0 : w1.cell? ⟨w.heap.size + 1, 0, none⟩ = some (.int .i64 a1_0) := (by rw [k1 _ _ (by first | omega | (simp; done) | (simp; omega))]; first | (simp; done) | go_simp); have yf0 : w1.frozen? ⟨w.heap.size + 1, 0, none⟩ = false := (by rw [f1 _ _ (by first | omega | (simp; done) | (simp; omega))]; first | (simp; done) | go_simp); have y1 : w1.cell? ⟨w.heap.size + 1, 1, none⟩ = some (.int .i64 a1_1) := (by rw [k1 _ _ (by first | omega | (simp; done) | (simp; omega))]; first | (simp; done) | go_simp); have yf1 : w1.frozen? ⟨w.heap.size + 1, 1, none⟩ = false := (by rw [f1 _ _ (by first | omega | (simp; done) | (simp; omega))]; first | (simp; done) | go_simp); have y2 : w1.cell? ⟨w.heap.size + 1, 2, none⟩ = some (.int .i64 a1_2) := (by rw [k1 _ _ (by first | omega | (simp; done) | (simp; omega))]; first | (simp; done) | go_simp); have yf2 : w1.frozen? ⟨w.heap.size + 1, 2, none⟩ = false := (by rw [f1 _ _ (by first | omega | (simp; done) | (simp; omega))]; first | (simp; done) | go_simp); have x0 : w1.cell? ⟨w.heap.size + 2, 0, none⟩ = some (.int .i64 0) := (by rw [k1 _ _ (by first | omega | (simp; done) | (simp; omega))]; first | (simp; done) | go_simp); have xf0 : w1.frozen? ⟨w.heap.size + 2, 0, none⟩ = false := (by rw [f1 _ _ (by first | omega | (simp; done) | (simp; omega))]; first | (simp; done) | go_simp); have x1 : w1.cell? ⟨w.heap.size + 2, 1, none⟩ = some (.slice none 0 0) := (by rw [k1 _ _ (by first | omega | (simp; done) | (simp; omega))]; first | (simp; done) | go_simp); have xf1 : w1.frozen? ⟨w.heap.size + 2, 1, none⟩ = false := (by rw [f1 _ _ (by first | omega | (simp; done) | (simp; omega))]; first | (simp; done) | go_simp); clear k1 f1; have d1 : Below w.heap.size w w1 := (by repeat (first | assumption | exact Below.refl _ _ | (refine Below.trans ?_ (b1.mono (by first | omega | (simp; done) | (simp; omega)))) | (refine Below.setCell ?_ (by first | omega | (simp; done) | (simp; omega)) _) | apply below_drewN | apply Below.drew | (refine Below.alloc ?_ (by first | omega | (simp; done) | (simp; omega)) _))))
    exact bodyPost_ret (v := .tuple #[.agg #[.int .i64 0, .slice none 0 0], .int .i64 1]) (by simp [results, Try.results9, go_sem, x0, x1, xf0, xf1]) rfl ⟨none, 0, rfl, (by repeat (first | assumption | exact Below.refl _ _ | (refine Below.trans ?_ (d1.mono (by first | omega | (simp; done) | (simp; omega)))) | (refine Below.setCell ?_ (by first | omega | (simp; done) | (simp; omega)) _) | apply below_drewN | apply Below.drew | (refine Below.alloc ?_ (by first | omega | (simp; done) | (simp; omega)) _))), wr_nil _ _⟩

set_option maxHeartbeats 6400000 in
theorem implC_AddDitch (a0_0 : Int) (a0_1 : Option Addr) (la0_1 ca0_1 : Nat) (xa0_1 : List RDitch) (a1_0 : Int) (a1_1 : Int) (a1_2 : Int) (w : World) (ha0_0 : (Lit.int .i64 a0_0).wf = true) (ha0_1 : la0_1 ≤ 1048576) (ra0_1 : Rd_Ditch w w.heap.size a0_1 la0_1 xa0_1) (fa0_1 : Wf_Ditch xa0_1) (ha1_0 : (Lit.int .i64 a1_0).wf = true) (ha1_1 : (Lit.int .i64 a1_1).wf = true) (ha1_2 : (Lit.int .i64 a1_2).wf = true) :
    Calls Try.prog 12 #[.agg #[.int .i64 a0_0, .slice a0_1 la0_1 ca0_1], .agg #[.int .i64 a1_0, .int .i64 a1_1, .int .i64 a1_2]] w fun e w' => ∃ B0 dB0, e = .returned (.tuple #[.agg #[.int .i64 (r0_AddDitch a0_0 xa0_1 a1_0 a1_1 a1_2), .slice B0 (r1_AddDitch a0_0 xa0_1 a1_0 a1_1 a1_2).length dB0], .int .i64 (r2_AddDitch a0_0 xa0_1 a1_0 a1_1 a1_2)]) ∧ Below w.heap.size w w' ∧ Wr_Ditch w' w.heap.size B0 (r1_AddDitch a0_0 xa0_1 a1_0 a1_1 a1_2).length (r1_AddDitch a0_0 xa0_1 a1_0 a1_1 a1_2) := by
  have hl0 := ra0_1.len
  have RA := Lib.hid ra0_1
  clear ra0_1
  by_cases h : NetOk a0_0 xa0_1 ∧ DOk a0_0 ⟨a1_0, a1_1, a1_2⟩
  · have hec : ncode a0_0 xa0_1 (DOk a0_0 ⟨a1_0, a1_1, a1_2⟩) = 0 := ncode_ok h.1 h.2
    have EC := Lib.hid hec
    have hlen := h.1.2.1
    by_cases hf : xa0_1.length = 20
    · obtain ⟨e0, e1, e2⟩ := ad_full ⟨h.1, h.2, hf⟩
      rw [e0, e1, e2]
      have h20 : ((la0_1 : Int) == 20) = true := by simp; omega
      clear e0 e1 e2 hec h hf hl0 hlen
      go_enter Try.func12, Try.ntmps12
      go_wp2
      have b0 : Below w.heap.size w (((w.alloc (.cells #[.int .i64 a0_0, .slice a0_1 la0_1 ca0_1] 30)).alloc (.cells #[.int .i64 a1_0, .int .i64 a1_1, .int .i64 a1_2] 34)).alloc (.cells #[.int .i64 0, .slice none 0 0] 30)).drew := (by repeat (first | assumption | exact Below.refl _ _ | (refine Below.setCell ?_ (by first | omega | (simp; done) | (simp; omega)) _) | apply below_drewN | apply Below.drew | (refine Below.alloc ?_ (by first | omega | (simp; done) | (simp; omega)) _)))
      have s0 : w.heap.size + 3 = (((w.alloc (.cells #[.int .i64 a0_0, .slice a0_1 la0_1 ca0_1] 30)).alloc (.cells #[.int .i64 a1_0, .int .i64 a1_1, .int .i64 a1_2] 34)).alloc (.cells #[.int .i64 0, .slice none 0 0] 30)).drew.heap.size := by show _ = (World.alloc _ _).heap.size; simp
      have q0 : ((((w.alloc (.cells #[.int .i64 a0_0, .slice a0_1 la0_1 ca0_1] 30)).alloc (.cells #[.int .i64 a1_0, .int .i64 a1_1, .int .i64 a1_2] 34)).alloc (.cells #[.int .i64 0, .slice none 0 0] 30)).drew).cell? ⟨w.heap.size, 0, none⟩ = some (.int .i64 a0_0) := by go_simp
      have q1 : ((((w.alloc (.cells #[.int .i64 a0_0, .slice a0_1 la0_1 ca0_1] 30)).alloc (.cells #[.int .i64 a1_0, .int .i64 a1_1, .int .i64 a1_2] 34)).alloc (.cells #[.int .i64 0, .slice none 0 0] 30)).drew).cell? ⟨w.heap.size, 1, none⟩ = some (.slice a0_1 la0_1 ca0_1) := by go_simp
      have q2 : ((((w.alloc (.cells #[.int .i64 a0_0, .slice a0_1 la0_1 ca0_1] 30)).alloc (.cells #[.int .i64 a1_0, .int .i64 a1_1, .int .i64 a1_2] 34)).alloc (.cells #[.int .i64 0, .slice none 0 0] 30)).drew).cell? ⟨w.heap.size + 1, 0, none⟩ = some (.int .i64 a1_0) := by go_simp
      have q3 : ((((w.alloc (.cells #[.int .i64 a0_0, .slice a0_1 la0_1 ca0_1] 30)).alloc (.cells #[.int .i64 a1_0, .int .i64 a1_1, .int .i64 a1_2] 34)).alloc (.cells #[.int .i64 0, .slice none 0 0] 30)).drew).cell? ⟨w.heap.size + 1, 1, none⟩ = some (.int .i64 a1_1) := by go_simp
      have q4 : ((((w.alloc (.cells #[.int .i64 a0_0, .slice a0_1 la0_1 ca0_1] 30)).alloc (.cells #[.int .i64 a1_0, .int .i64 a1_1, .int .i64 a1_2] 34)).alloc (.cells #[.int .i64 0, .slice none 0 0] 30)).drew).cell? ⟨w.heap.size + 1, 2, none⟩ = some (.int .i64 a1_2) := by go_simp
      have q5 : ((((w.alloc (.cells #[.int .i64 a0_0, .slice a0_1 la0_1 ca0_1] 30)).alloc (.cells #[.int .i64 a1_0, .int .i64 a1_1, .int .i64 a1_2] 34)).alloc (.cells #[.int .i64 0, .slice none 0 0] 30)).drew).cell? ⟨w.heap.size + 1 + 1, 0, none⟩ = some (.int .i64 0) := by go_simp
      have q6 : ((((w.alloc (.cells #[.int .i64 a0_0, .slice a0_1 la0_1 ca0_1] 30)).alloc (.cells #[.int .i64 a1_0, .int .i64 a1_1, .int .i64 a1_2] 34)).alloc (.cells #[.int .i64 0, .slice none 0 0] 30)).drew).cell? ⟨w.heap.size + 1 + 1, 1, none⟩ = some (.slice none 0 0) := by go_simp
      have qf0 : ((((w.alloc (.cells #[.int .i64 a0_0, .slice a0_1 la0_1 ca0_1] 30)).alloc (.cells #[.int .i64 a1_0, .int .i64 a1_1, .int .i64 a1_2] 34)).alloc (.cells #[.int .i64 0, .slice none 0 0] 30)).drew).frozen? ⟨w.heap.size + 1 + 1, 0, none⟩ = false := by go_simp
      have qf1 : ((((w.alloc (.cells #[.int .i64 a0_0, .slice a0_1 la0_1 ca0_1] 30)).alloc (.cells #[.int .i64 a1_0, .int .i64 a1_1, .int .i64 a1_2] 34)).alloc (.cells #[.int .i64 0, .slice none 0 0] 30)).drew).frozen? ⟨w.heap.size + 1 + 1, 1, none⟩ = false := by go_simp
      refine wp_region_held_drew (S := (fun w' => w'.cell? ⟨w.heap.size, 0, none⟩ = some (.int .i64 a0_0) ∧ w'.cell? ⟨w.heap.size, 1, none⟩ = some (.slice a0_1 la0_1 ca0_1) ∧ w'.cell? ⟨w.heap.size + 1, 0, none⟩ = some (.int .i64 a1_0) ∧ w'.cell? ⟨w.heap.size + 1, 1, none⟩ = some (.int .i64 a1_1) ∧ w'.cell? ⟨w.heap.size + 1, 2, none⟩ = some (.int .i64 a1_2))) (by kernel_rfl) ⟨q0, q1, q2, q3, q4⟩ (fun hHeld => ?_)
      generalize (((w.alloc (.cells #[.int .i64 a0_0, .slice a0_1 la0_1 ca0_1] 30)).alloc (.cells #[.int .i64 a1_0, .int .i64 a1_1, .int .i64 a1_2] 34)).alloc (.cells #[.int .i64 0, .slice none 0 0] 30)).drew = W0 at b0 s0 q0 q1 q2 q3 q4 q5 q6 qf0 qf1 hHeld ⊢
      clear hHeld
      have hHeld : (fun w' => w'.cell? ⟨w.heap.size, 0, none⟩ = some (.int .i64 a0_0) ∧ w'.cell? ⟨w.heap.size, 1, none⟩ = some (.slice a0_1 la0_1 ca0_1) ∧ w'.cell? ⟨w.heap.size + 1, 0, none⟩ = some (.int .i64 a1_0) ∧ w'.cell? ⟨w.heap.size + 1, 1, none⟩ = some (.int .i64 a1_1) ∧ w'.cell? ⟨w.heap.size + 1, 2, none⟩ = some (.int .i64 a1_2)) W0 := ⟨q0, q1, q2, q3, q4⟩
      ((refine wpAnyH_take (i := 0) (oi := ⟨some 7, _, _, _, _, _⟩) (v := ?_) rfl (by kernel_rfl) (by kernel_rfl) (by kernel_rfl) (fun _ _ _ h => h) (Or.inl ⟨by rfl, ?_⟩) (by assumption) ?_; rotate_left 1; (focus (intro w hSw; (try dsimp only at hSw); go_simp <;> try (first | (with_reducible rfl) | (rw [if_neg (by omega)])))); try simp only [Act.put, List.setIfInBounds_toArray, List.set_cons_zero, List.set_cons_succ]); (refine wpAnyH_take (i := 1) (oi := ⟨some 8, _, _, _, _, _⟩) (v := ?_) rfl (by kernel_rfl) (by kernel_rfl) (by kernel_rfl) (fun _ _ _ h => h) (Or.inl ⟨by rfl, ?_⟩) (by assumption) ?_; rotate_left 1; (focus (intro w hSw; (try dsimp only at hSw); go_simp <;> try (first | (with_reducible rfl) | (rw [if_neg (by omega)])))); try simp only [Act.put, List.setIfInBounds_toArray, List.set_cons_zero, List.set_cons_succ]); (refine wpAnyH_take (i := 2) (oi := ⟨some 9, _, _, _, _, _⟩) (v := ?_) rfl (by kernel_rfl) (by kernel_rfl) (by kernel_rfl) (fun _ _ _ h => h) (Or.inl ⟨by rfl, ?_⟩) (by assumption) ?_; rotate_left 1; (focus (intro w hSw; (try dsimp only at hSw); go_simp <;> try (first | (with_reducible rfl) | (rw [if_neg (by omega)])))); try simp only [Act.put, List.setIfInBounds_toArray, List.set_cons_zero, List.set_cons_succ]))
      refine wpAnyH_ready (rs := [3]) (by kernel_rfl) (by simp) ?_
      refine AllReadyH.cons (o := ⟨some 10, _, _, _, _, _⟩) rfl (fun K hK => ?_) AllReadyH.nil
      go_simp
      refine (canHave_t _ _ _ _ _ _ _ _).mono ?_
      rintro e1 W1 ⟨v1, rfl, b1, hv1⟩
      have HV1 := Lib.hid hv1
      have m0 : w.heap.size < W0.heap.size := by omega
      have m1 : w.heap.size + 1 < W0.heap.size := by omega
      have m2 : w.heap.size + 1 + 1 < W0.heap.size := by omega
      have r0 : W1.cell? ⟨w.heap.size, 0, none⟩ = some (.int .i64 a0_0) := (b1.cell (p := ⟨w.heap.size, 0, none⟩) m0).trans q0
      have r1 : W1.cell? ⟨w.heap.size, 1, none⟩ = some (.slice a0_1 la0_1 ca0_1) := (b1.cell (p := ⟨w.heap.size, 1, none⟩) m0).trans q1
      have r2 : W1.cell? ⟨w.heap.size + 1, 0, none⟩ = some (.int .i64 a1_0) := (b1.cell (p := ⟨w.heap.size + 1, 0, none⟩) m1).trans q2
      have r3 : W1.cell? ⟨w.heap.size + 1, 1, none⟩ = some (.int .i64 a1_1) := (b1.cell (p := ⟨w.heap.size + 1, 1, none⟩) m1).trans q3
      have r4 : W1.cell? ⟨w.heap.size + 1, 2, none⟩ = some (.int .i64 a1_2) := (b1.cell (p := ⟨w.heap.size + 1, 2, none⟩) m1).trans q4
      have r5 : W1.cell? ⟨w.heap.size + 1 + 1, 0, none⟩ = some (.int .i64 0) := (b1.cell (p := ⟨w.heap.size + 1 + 1, 0, none⟩) m2).trans q5
      have r6 : W1.cell? ⟨w.heap.size + 1 + 1, 1, none⟩ = some (.slice none 0 0) := (b1.cell (p := ⟨w.heap.size + 1 + 1, 1, none⟩) m2).trans q6
      have rf0 : W1.frozen? ⟨w.heap.size + 1 + 1, 0, none⟩ = false := (b1.frozen (p := ⟨w.heap.size + 1 + 1, 0, none⟩) m2).trans qf0
      have rf1 : W1.frozen? ⟨w.heap.size + 1 + 1, 1, none⟩ = false := (b1.frozen (p := ⟨w.heap.size + 1 + 1, 1, none⟩) m2).trans qf1
      have b1' : Below w.heap.size w W1 := b0.trans (b1.mono (by omega))
      have t0 : w.heap.size < W1.heap.size := by have := b1.size; omega
      have t1 : w.heap.size + 1 < W1.heap.size := by have := b1.size; omega
      have t2 : w.heap.size + 1 + 1 < W1.heap.size := by have := b1.size; omega
      clear hv1 hHeld q0 q1 q2 q3 q4 q5 q6 qf0 qf1
      refine hK.out _ _ ?_ (fun hHeld => ?_)
      · exact ⟨r0, r1, r2, r3, r4⟩
      try simp only [Act.put, List.setIfInBounds_toArray, List.set_cons_zero, List.set_cons_succ]
      clear hK K
      refine wpAnyH_ready (rs := [4]) (by kernel_rfl) (by simp) ?_
      refine AllReadyH.cons (o := ⟨some 11, _, _, _, _, _⟩) rfl (fun K hK => ?_) AllReadyH.nil
      go_simp
      refine (netCode_t _ _ _ _ xa0_1 _ (DOk a0_0 ⟨a1_0, a1_1, a1_2⟩) _ ha0_1 ((RA.out.below b1').mono (by omega)) (fun h => HV1.out h.1)).mono ?_
      rintro e2 W2 ⟨rfl, b2⟩
      rw [EC.out]
      have p0 : W2.cell? ⟨w.heap.size, 0, none⟩ = some (.int .i64 a0_0) := (b2.cell (p := ⟨w.heap.size, 0, none⟩) t0).trans r0
      have p1 : W2.cell? ⟨w.heap.size, 1, none⟩ = some (.slice a0_1 la0_1 ca0_1) := (b2.cell (p := ⟨w.heap.size, 1, none⟩) t0).trans r1
      have p2 : W2.cell? ⟨w.heap.size + 1, 0, none⟩ = some (.int .i64 a1_0) := (b2.cell (p := ⟨w.heap.size + 1, 0, none⟩) t1).trans r2
      have p3 : W2.cell? ⟨w.heap.size + 1, 1, none⟩ = some (.int .i64 a1_1) := (b2.cell (p := ⟨w.heap.size + 1, 1, none⟩) t1).trans r3
      have p4 : W2.cell? ⟨w.heap.size + 1, 2, none⟩ = some (.int .i64 a1_2) := (b2.cell (p := ⟨w.heap.size + 1, 2, none⟩) t1).trans r4
      have p5 : W2.cell? ⟨w.heap.size + 1 + 1, 0, none⟩ = some (.int .i64 0) := (b2.cell (p := ⟨w.heap.size + 1 + 1, 0, none⟩) t2).trans r5
      have p6 : W2.cell? ⟨w.heap.size + 1 + 1, 1, none⟩ = some (.slice none 0 0) := (b2.cell (p := ⟨w.heap.size + 1 + 1, 1, none⟩) t2).trans r6
      have pf0 : W2.frozen? ⟨w.heap.size + 1 + 1, 0, none⟩ = false := (b2.frozen (p := ⟨w.heap.size + 1 + 1, 0, none⟩) t2).trans rf0
      have pf1 : W2.frozen? ⟨w.heap.size + 1 + 1, 1, none⟩ = false := (b2.frozen (p := ⟨w.heap.size + 1 + 1, 1, none⟩) t2).trans rf1
      have b2' : Below w.heap.size w W2 := b1'.trans (b2.mono (by omega))
      have n0 : w.heap.size < W2.heap.size := by have := b2.size; omega
      have n1 : w.heap.size + 1 < W2.heap.size := by have := b2.size; omega
      have n2 : w.heap.size + 1 + 1 < W2.heap.size := by have := b2.size; omega
      clear hHeld r0 r1 r2 r3 r4 r5 r6 rf0 rf1
      refine hK.out _ _ ?_ (fun hHeld => ?_)
      · exact ⟨p0, p1, p2, p3, p4⟩
      try simp only [Act.put, List.setIfInBounds_toArray, List.set_cons_zero, List.set_cons_succ]
      clear hK K
      ((refine wpAnyH_take (i := 5) (oi := ⟨some 6, _, _, _, _, _⟩) (v := ?_) rfl (by kernel_rfl) (by kernel_rfl) (by kernel_rfl) (fun _ _ _ h => h) (Or.inl ⟨by rfl, ?_⟩) (by assumption) ?_; rotate_left 1; (focus (intro w hSw; (try dsimp only at hSw); go_simp <;> try (first | (with_reducible rfl) | (rw [if_neg (by omega)])))); try simp only [Act.put, List.setIfInBounds_toArray, List.set_cons_zero, List.set_cons_succ]))
      refine wpAnyH_done (by kernel_rfl) ?_ _
      clear hHeld
      go_wp2
      have u0 : ((W2.setCell ⟨w.heap.size + 1 + 1, 0, none⟩ (.int .i64 0)).setCell ⟨w.heap.size + 1 + 1, 1, none⟩ (.slice none 0 0)).cell? ⟨w.heap.size + 1 + 1, 0, none⟩ = some (.int .i64 0) := (World.cell?_setCell_other _ _ _ _ (by simp)).trans (World.cell?_setCell_same _ _ _ p5)
      have u1 : ((W2.setCell ⟨w.heap.size + 1 + 1, 0, none⟩ (.int .i64 0)).setCell ⟨w.heap.size + 1 + 1, 1, none⟩ (.slice none 0 0)).cell? ⟨w.heap.size + 1 + 1, 1, none⟩ = some (.slice none 0 0) := World.cell?_setCell_same _ _ _ ((World.cell?_setCell_other _ _ _ _ (by simp)).trans p6)
      have hbl : Below w.heap.size w ((W2.setCell ⟨w.heap.size + 1 + 1, 0, none⟩ (.int .i64 0)).setCell ⟨w.heap.size + 1 + 1, 1, none⟩ (.slice none 0 0)) := (Below.setCell b2' (by show w.heap.size ≤ w.heap.size + 1 + 1; omega) _).setCell (by show w.heap.size ≤ w.heap.size + 1 + 1; omega) _
      generalize ((W2.setCell ⟨w.heap.size + 1 + 1, 0, none⟩ (.int .i64 0)).setCell ⟨w.heap.size + 1 + 1, 1, none⟩ (.slice none 0 0)) = W6 at u0 u1 hbl ⊢
      exact bodyPost_ret (v := .tuple #[.agg #[.int .i64 0, .slice none 0 0], .int .i64 5]) (by simp [results, Try.results12, go_sem, u0, u1]) rfl ⟨none, 0, rfl, hbl, wr_nil _ _⟩
    · obtain ⟨e0, e1, e2⟩ := ad_ok ⟨h.1, h.2, hf⟩
      rw [e0, e1, e2]
      have h20 : ((la0_1 : Int) == 20) = false := by simp; omega
      have HL := Lib.hid hl0
      have hcat : la0_1 ≤ 1048576 := ha0_1
      clear e0 e1 e2 hec h hf hl0 hlen
      go_enter Try.func12, Try.ntmps12
      go_wp2
      have b0 : Below w.heap.size w (((w.alloc (.cells #[.int .i64 a0_0, .slice a0_1 la0_1 ca0_1] 30)).alloc (.cells #[.int .i64 a1_0, .int .i64 a1_1, .int .i64 a1_2] 34)).alloc (.cells #[.int .i64 0, .slice none 0 0] 30)).drew := (by repeat (first | assumption | exact Below.refl _ _ | (refine Below.setCell ?_ (by first | omega | (simp; done) | (simp; omega)) _) | apply below_drewN | apply Below.drew | (refine Below.alloc ?_ (by first | omega | (simp; done) | (simp; omega)) _)))
      have s0 : w.heap.size + 3 = (((w.alloc (.cells #[.int .i64 a0_0, .slice a0_1 la0_1 ca0_1] 30)).alloc (.cells #[.int .i64 a1_0, .int .i64 a1_1, .int .i64 a1_2] 34)).alloc (.cells #[.int .i64 0, .slice none 0 0] 30)).drew.heap.size := by show _ = (World.alloc _ _).heap.size; simp
      have q0 : ((((w.alloc (.cells #[.int .i64 a0_0, .slice a0_1 la0_1 ca0_1] 30)).alloc (.cells #[.int .i64 a1_0, .int .i64 a1_1, .int .i64 a1_2] 34)).alloc (.cells #[.int .i64 0, .slice none 0 0] 30)).drew).cell? ⟨w.heap.size, 0, none⟩ = some (.int .i64 a0_0) := by go_simp
      have q1 : ((((w.alloc (.cells #[.int .i64 a0_0, .slice a0_1 la0_1 ca0_1] 30)).alloc (.cells #[.int .i64 a1_0, .int .i64 a1_1, .int .i64 a1_2] 34)).alloc (.cells #[.int .i64 0, .slice none 0 0] 30)).drew).cell? ⟨w.heap.size, 1, none⟩ = some (.slice a0_1 la0_1 ca0_1) := by go_simp
      have q2 : ((((w.alloc (.cells #[.int .i64 a0_0, .slice a0_1 la0_1 ca0_1] 30)).alloc (.cells #[.int .i64 a1_0, .int .i64 a1_1, .int .i64 a1_2] 34)).alloc (.cells #[.int .i64 0, .slice none 0 0] 30)).drew).cell? ⟨w.heap.size + 1, 0, none⟩ = some (.int .i64 a1_0) := by go_simp
      have q3 : ((((w.alloc (.cells #[.int .i64 a0_0, .slice a0_1 la0_1 ca0_1] 30)).alloc (.cells #[.int .i64 a1_0, .int .i64 a1_1, .int .i64 a1_2] 34)).alloc (.cells #[.int .i64 0, .slice none 0 0] 30)).drew).cell? ⟨w.heap.size + 1, 1, none⟩ = some (.int .i64 a1_1) := by go_simp
      have q4 : ((((w.alloc (.cells #[.int .i64 a0_0, .slice a0_1 la0_1 ca0_1] 30)).alloc (.cells #[.int .i64 a1_0, .int .i64 a1_1, .int .i64 a1_2] 34)).alloc (.cells #[.int .i64 0, .slice none 0 0] 30)).drew).cell? ⟨w.heap.size + 1, 2, none⟩ = some (.int .i64 a1_2) := by go_simp
      have q5 : ((((w.alloc (.cells #[.int .i64 a0_0, .slice a0_1 la0_1 ca0_1] 30)).alloc (.cells #[.int .i64 a1_0, .int .i64 a1_1, .int .i64 a1_2] 34)).alloc (.cells #[.int .i64 0, .slice none 0 0] 30)).drew).cell? ⟨w.heap.size + 1 + 1, 0, none⟩ = some (.int .i64 0) := by go_simp
      have q6 : ((((w.alloc (.cells #[.int .i64 a0_0, .slice a0_1 la0_1 ca0_1] 30)).alloc (.cells #[.int .i64 a1_0, .int .i64 a1_1, .int .i64 a1_2] 34)).alloc (.cells #[.int .i64 0, .slice none 0 0] 30)).drew).cell? ⟨w.heap.size + 1 + 1, 1, none⟩ = some (.slice none 0 0) := by go_simp
      have qf0 : ((((w.alloc (.cells #[.int .i64 a0_0, .slice a0_1 la0_1 ca0_1] 30)).alloc (.cells #[.int .i64 a1_0, .int .i64 a1_1, .int .i64 a1_2] 34)).alloc (.cells #[.int .i64 0, .slice none 0 0] 30)).drew).frozen? ⟨w.heap.size + 1 + 1, 0, none⟩ = false := by go_simp
      have qf1 : ((((w.alloc (.cells #[.int .i64 a0_0, .slice a0_1 la0_1 ca0_1] 30)).alloc (.cells #[.int .i64 a1_0, .int .i64 a1_1, .int .i64 a1_2] 34)).alloc (.cells #[.int .i64 0, .slice none 0 0] 30)).drew).frozen? ⟨w.heap.size + 1 + 1, 1, none⟩ = false := by go_simp
      refine wp_region_held_drew (S := (fun w' => w'.cell? ⟨w.heap.size, 0, none⟩ = some (.int .i64 a0_0) ∧ w'.cell? ⟨w.heap.size, 1, none⟩ = some (.slice a0_1 la0_1 ca0_1) ∧ w'.cell? ⟨w.heap.size + 1, 0, none⟩ = some (.int .i64 a1_0) ∧ w'.cell? ⟨w.heap.size + 1, 1, none⟩ = some (.int .i64 a1_1) ∧ w'.cell? ⟨w.heap.size + 1, 2, none⟩ = some (.int .i64 a1_2))) (by kernel_rfl) ⟨q0, q1, q2, q3, q4⟩ (fun hHeld => ?_)
      generalize (((w.alloc (.cells #[.int .i64 a0_0, .slice a0_1 la0_1 ca0_1] 30)).alloc (.cells #[.int .i64 a1_0, .int .i64 a1_1, .int .i64 a1_2] 34)).alloc (.cells #[.int .i64 0, .slice none 0 0] 30)).drew = W0 at b0 s0 q0 q1 q2 q3 q4 q5 q6 qf0 qf1 hHeld ⊢
      clear hHeld
      have hHeld : (fun w' => w'.cell? ⟨w.heap.size, 0, none⟩ = some (.int .i64 a0_0) ∧ w'.cell? ⟨w.heap.size, 1, none⟩ = some (.slice a0_1 la0_1 ca0_1) ∧ w'.cell? ⟨w.heap.size + 1, 0, none⟩ = some (.int .i64 a1_0) ∧ w'.cell? ⟨w.heap.size + 1, 1, none⟩ = some (.int .i64 a1_1) ∧ w'.cell? ⟨w.heap.size + 1, 2, none⟩ = some (.int .i64 a1_2)) W0 := ⟨q0, q1, q2, q3, q4⟩
      ((refine wpAnyH_take (i := 0) (oi := ⟨some 7, _, _, _, _, _⟩) (v := ?_) rfl (by kernel_rfl) (by kernel_rfl) (by kernel_rfl) (fun _ _ _ h => h) (Or.inl ⟨by rfl, ?_⟩) (by assumption) ?_; rotate_left 1; (focus (intro w hSw; (try dsimp only at hSw); go_simp <;> try (first | (with_reducible rfl) | (rw [if_neg (by omega)])))); try simp only [Act.put, List.setIfInBounds_toArray, List.set_cons_zero, List.set_cons_succ]); (refine wpAnyH_take (i := 1) (oi := ⟨some 8, _, _, _, _, _⟩) (v := ?_) rfl (by kernel_rfl) (by kernel_rfl) (by kernel_rfl) (fun _ _ _ h => h) (Or.inl ⟨by rfl, ?_⟩) (by assumption) ?_; rotate_left 1; (focus (intro w hSw; (try dsimp only at hSw); go_simp <;> try (first | (with_reducible rfl) | (rw [if_neg (by omega)])))); try simp only [Act.put, List.setIfInBounds_toArray, List.set_cons_zero, List.set_cons_succ]); (refine wpAnyH_take (i := 2) (oi := ⟨some 9, _, _, _, _, _⟩) (v := ?_) rfl (by kernel_rfl) (by kernel_rfl) (by kernel_rfl) (fun _ _ _ h => h) (Or.inl ⟨by rfl, ?_⟩) (by assumption) ?_; rotate_left 1; (focus (intro w hSw; (try dsimp only at hSw); go_simp <;> try (first | (with_reducible rfl) | (rw [if_neg (by omega)])))); try simp only [Act.put, List.setIfInBounds_toArray, List.set_cons_zero, List.set_cons_succ]))
      refine wpAnyH_ready (rs := [3]) (by kernel_rfl) (by simp) ?_
      refine AllReadyH.cons (o := ⟨some 10, _, _, _, _, _⟩) rfl (fun K hK => ?_) AllReadyH.nil
      go_simp
      refine (canHave_t _ _ _ _ _ _ _ _).mono ?_
      rintro e1 W1 ⟨v1, rfl, b1, hv1⟩
      have HV1 := Lib.hid hv1
      have m0 : w.heap.size < W0.heap.size := by omega
      have m1 : w.heap.size + 1 < W0.heap.size := by omega
      have m2 : w.heap.size + 1 + 1 < W0.heap.size := by omega
      have r0 : W1.cell? ⟨w.heap.size, 0, none⟩ = some (.int .i64 a0_0) := (b1.cell (p := ⟨w.heap.size, 0, none⟩) m0).trans q0
      have r1 : W1.cell? ⟨w.heap.size, 1, none⟩ = some (.slice a0_1 la0_1 ca0_1) := (b1.cell (p := ⟨w.heap.size, 1, none⟩) m0).trans q1
      have r2 : W1.cell? ⟨w.heap.size + 1, 0, none⟩ = some (.int .i64 a1_0) := (b1.cell (p := ⟨w.heap.size + 1, 0, none⟩) m1).trans q2
      have r3 : W1.cell? ⟨w.heap.size + 1, 1, none⟩ = some (.int .i64 a1_1) := (b1.cell (p := ⟨w.heap.size + 1, 1, none⟩) m1).trans q3
      have r4 : W1.cell? ⟨w.heap.size + 1, 2, none⟩ = some (.int .i64 a1_2) := (b1.cell (p := ⟨w.heap.size + 1, 2, none⟩) m1).trans q4
      have r5 : W1.cell? ⟨w.heap.size + 1 + 1, 0, none⟩ = some (.int .i64 0) := (b1.cell (p := ⟨w.heap.size + 1 + 1, 0, none⟩) m2).trans q5
      have r6 : W1.cell? ⟨w.heap.size + 1 + 1, 1, none⟩ = some (.slice none 0 0) := (b1.cell (p := ⟨w.heap.size + 1 + 1, 1, none⟩) m2).trans q6
      have rf0 : W1.frozen? ⟨w.heap.size + 1 + 1, 0, none⟩ = false := (b1.frozen (p := ⟨w.heap.size + 1 + 1, 0, none⟩) m2).trans qf0
      have rf1 : W1.frozen? ⟨w.heap.size + 1 + 1, 1, none⟩ = false := (b1.frozen (p := ⟨w.heap.size + 1 + 1, 1, none⟩) m2).trans qf1
      have b1' : Below w.heap.size w W1 := b0.trans (b1.mono (by omega))
      have t0 : w.heap.size < W1.heap.size := by have := b1.size; omega
      have t1 : w.heap.size + 1 < W1.heap.size := by have := b1.size; omega
      have t2 : w.heap.size + 1 + 1 < W1.heap.size := by have := b1.size; omega
      clear hv1 hHeld q0 q1 q2 q3 q4 q5 q6 qf0 qf1
      refine hK.out _ _ ?_ (fun hHeld => ?_)
      · exact ⟨r0, r1, r2, r3, r4⟩
      try simp only [Act.put, List.setIfInBounds_toArray, List.set_cons_zero, List.set_cons_succ]
      clear hK K
      refine wpAnyH_ready (rs := [4]) (by kernel_rfl) (by simp) ?_
      refine AllReadyH.cons (o := ⟨some 11, _, _, _, _, _⟩) rfl (fun K hK => ?_) AllReadyH.nil
      go_simp
      refine (netCode_t _ _ _ _ xa0_1 _ (DOk a0_0 ⟨a1_0, a1_1, a1_2⟩) _ ha0_1 ((RA.out.below b1').mono (by omega)) (fun h => HV1.out h.1)).mono ?_
      rintro e2 W2 ⟨rfl, b2⟩
      rw [EC.out]
      have p0 : W2.cell? ⟨w.heap.size, 0, none⟩ = some (.int .i64 a0_0) := (b2.cell (p := ⟨w.heap.size, 0, none⟩) t0).trans r0
      have p1 : W2.cell? ⟨w.heap.size, 1, none⟩ = some (.slice a0_1 la0_1 ca0_1) := (b2.cell (p := ⟨w.heap.size, 1, none⟩) t0).trans r1
      have p2 : W2.cell? ⟨w.heap.size + 1, 0, none⟩ = some (.int .i64 a1_0) := (b2.cell (p := ⟨w.heap.size + 1, 0, none⟩) t1).trans r2
      have p3 : W2.cell? ⟨w.heap.size + 1, 1, none⟩ = some (.int .i64 a1_1) := (b2.cell (p := ⟨w.heap.size + 1, 1, none⟩) t1).trans r3
      have p4 : W2.cell? ⟨w.heap.size + 1, 2, none⟩ = some (.int .i64 a1_2) := (b2.cell (p := ⟨w.heap.size + 1, 2, none⟩) t1).trans r4
      have p5 : W2.cell? ⟨w.heap.size + 1 + 1, 0, none⟩ = some (.int .i64 0) := (b2.cell (p := ⟨w.heap.size + 1 + 1, 0, none⟩) t2).trans r5
      have p6 : W2.cell? ⟨w.heap.size + 1 + 1, 1, none⟩ = some (.slice none 0 0) := (b2.cell (p := ⟨w.heap.size + 1 + 1, 1, none⟩) t2).trans r6
      have pf0 : W2.frozen? ⟨w.heap.size + 1 + 1, 0, none⟩ = false := (b2.frozen (p := ⟨w.heap.size + 1 + 1, 0, none⟩) t2).trans rf0
      have pf1 : W2.frozen? ⟨w.heap.size + 1 + 1, 1, none⟩ = false := (b2.frozen (p := ⟨w.heap.size + 1 + 1, 1, none⟩) t2).trans rf1
      have b2' : Below w.heap.size w W2 := b1'.trans (b2.mono (by omega))
      have n0 : w.heap.size < W2.heap.size := by have := b2.size; omega
      have n1 : w.heap.size + 1 < W2.heap.size := by have := b2.size; omega
      have n2 : w.heap.size + 1 + 1 < W2.heap.size := by have := b2.size; omega
      clear hHeld r0 r1 r2 r3 r4 r5 r6 rf0 rf1
      refine hK.out _ _ ?_ (fun hHeld => ?_)
      · exact ⟨p0, p1, p2, p3, p4⟩
      try simp only [Act.put, List.setIfInBounds_toArray, List.set_cons_zero, List.set_cons_succ]
      clear hK K
      ((refine wpAnyH_take (i := 5) (oi := ⟨some 6, _, _, _, _, _⟩) (v := ?_) rfl (by kernel_rfl) (by kernel_rfl) (by kernel_rfl) (fun _ _ _ h => h) (Or.inl ⟨by rfl, ?_⟩) (by assumption) ?_; rotate_left 1; (focus (intro w hSw; (try dsimp only at hSw); go_simp <;> try (first | (with_reducible rfl) | (rw [if_neg (by omega)])))); try simp only [Act.put, List.setIfInBounds_toArray, List.set_cons_zero, List.set_cons_succ]))
      refine wpAnyH_done (by kernel_rfl) ?_ _
      clear hHeld
      go_wp2
      refine wp_region_held_drew (S := (fun w' => w'.cell? ⟨w.heap.size, 0, none⟩ = some (.int .i64 a0_0) ∧ w'.cell? ⟨w.heap.size, 1, none⟩ = some (.slice a0_1 la0_1 ca0_1) ∧ w'.cell? ⟨w.heap.size + 1, 0, none⟩ = some (.int .i64 a1_0) ∧ w'.cell? ⟨w.heap.size + 1, 1, none⟩ = some (.int .i64 a1_1) ∧ w'.cell? ⟨w.heap.size + 1, 2, none⟩ = some (.int .i64 a1_2))) (by kernel_rfl) ⟨p0, p1, p2, p3, p4⟩ (fun hHeld => ?_)
      ((refine wpAnyH_take (i := 0) (oi := ⟨some 21, _, _, _, _, _⟩) (v := ?_) rfl (by kernel_rfl) (by kernel_rfl) (by kernel_rfl) (fun _ _ _ h => h) (Or.inl ⟨by rfl, ?_⟩) (by assumption) ?_; rotate_left 1; (focus (intro w hSw; (try dsimp only at hSw); go_simp <;> try (first | (with_reducible rfl) | (rw [if_neg (by omega)])))); try simp only [Act.put, List.setIfInBounds_toArray, List.set_cons_zero, List.set_cons_succ]); (refine wpAnyH_take (i := 1) (oi := ⟨some 22, _, _, _, _, _⟩) (v := ?_) rfl (by kernel_rfl) (by kernel_rfl) (by kernel_rfl) (fun _ _ _ h => h) (Or.inl ⟨by rfl, ?_⟩) (by assumption) ?_; rotate_left 1; (focus (intro w hSw; (try dsimp only at hSw); go_simp <;> try (first | (with_reducible rfl) | (rw [if_neg (by omega)])))); try simp only [Act.put, List.setIfInBounds_toArray, List.set_cons_zero, List.set_cons_succ]); (refine wpAnyH_take (i := 2) (oi := ⟨some 23, _, _, _, _, _⟩) (v := ?_) rfl (by kernel_rfl) (by kernel_rfl) (by kernel_rfl) (fun _ _ _ h => h) (Or.inl ⟨by rfl, ?_⟩) (by assumption) ?_; rotate_left 1; (focus (intro w hSw; (try dsimp only at hSw); go_simp <;> try (first | (with_reducible rfl) | (rw [if_neg (by omega)])))); try simp only [Act.put, List.setIfInBounds_toArray, List.set_cons_zero, List.set_cons_succ]); (refine wpAnyH_take (i := 3) (oi := ⟨some 24, _, _, _, _, _⟩) (v := ?_) rfl (by kernel_rfl) (by kernel_rfl) (by kernel_rfl) (fun _ _ _ h => h) (Or.inl ⟨by rfl, ?_⟩) (by assumption) ?_; rotate_left 1; (focus (intro w hSw; (try dsimp only at hSw); go_simp <;> try (first | (with_reducible rfl) | (rw [if_neg (by omega)])))); try simp only [Act.put, List.setIfInBounds_toArray, List.set_cons_zero, List.set_cons_succ]); (refine wpAnyH_take (i := 4) (oi := ⟨some 25, _, _, _, _, _⟩) (v := ?_) rfl (by kernel_rfl) (by kernel_rfl) (by kernel_rfl) (fun _ _ _ h => h) (Or.inl ⟨by rfl, ?_⟩) (by assumption) ?_; rotate_left 1; (focus (intro w hSw; (try dsimp only at hSw); go_simp <;> try (first | (with_reducible rfl) | (rw [if_neg (by omega)])))); try simp only [Act.put, List.setIfInBounds_toArray, List.set_cons_zero, List.set_cons_succ]))
      refine wpAnyH_ready (rs := [5]) (by kernel_rfl) (by simp) ?_
      refine AllReadyH.cons (o := ⟨some 26, _, _, _, _, _⟩) rfl (fun K hK => ?_) AllReadyH.nil
      go_simp
      have v3 : Below W2.heap.size W2 (W2.alloc (.cells #[.int .i64 a1_0, .int .i64 a1_1, .int .i64 a1_2] 34)).drew := ((Below.refl _ _).alloc (Nat.le_refl _) _).drew
      have s3 : W2.heap.size + 1 = (W2.alloc (.cells #[.int .i64 a1_0, .int .i64 a1_1, .int .i64 a1_2] 34)).drew.heap.size := by show _ = (W2.alloc _).heap.size; simp
      have HS3 : Hid (Rd_Ditch (W2.alloc (.cells #[.int .i64 a1_0, .int .i64 a1_1, .int .i64 a1_2] 34)).drew (W2.heap.size + 1) (some ⟨W2.heap.size, 0, none⟩) 1 [⟨a1_0, a1_1, a1_2⟩]) := Lib.hid (one_rdDitch W2 ⟨a1_0, a1_1, a1_2⟩ 34)
      generalize (W2.alloc (.cells #[.int .i64 a1_0, .int .i64 a1_1, .int .i64 a1_2] 34)).drew = W3 at v3 s3 HS3 ⊢
      have c0 : W3.cell? ⟨w.heap.size, 0, none⟩ = some (.int .i64 a0_0) := (v3.cell (p := ⟨w.heap.size, 0, none⟩) n0).trans p0
      have c1 : W3.cell? ⟨w.heap.size, 1, none⟩ = some (.slice a0_1 la0_1 ca0_1) := (v3.cell (p := ⟨w.heap.size, 1, none⟩) n0).trans p1
      have c2 : W3.cell? ⟨w.heap.size + 1, 0, none⟩ = some (.int .i64 a1_0) := (v3.cell (p := ⟨w.heap.size + 1, 0, none⟩) n1).trans p2
      have c3 : W3.cell? ⟨w.heap.size + 1, 1, none⟩ = some (.int .i64 a1_1) := (v3.cell (p := ⟨w.heap.size + 1, 1, none⟩) n1).trans p3
      have c4 : W3.cell? ⟨w.heap.size + 1, 2, none⟩ = some (.int .i64 a1_2) := (v3.cell (p := ⟨w.heap.size + 1, 2, none⟩) n1).trans p4
      have c5 : W3.cell? ⟨w.heap.size + 1 + 1, 0, none⟩ = some (.int .i64 0) := (v3.cell (p := ⟨w.heap.size + 1 + 1, 0, none⟩) n2).trans p5
      have c6 : W3.cell? ⟨w.heap.size + 1 + 1, 1, none⟩ = some (.slice none 0 0) := (v3.cell (p := ⟨w.heap.size + 1 + 1, 1, none⟩) n2).trans p6
      have cf0 : W3.frozen? ⟨w.heap.size + 1 + 1, 0, none⟩ = false := (v3.frozen (p := ⟨w.heap.size + 1 + 1, 0, none⟩) n2).trans pf0
      have cf1 : W3.frozen? ⟨w.heap.size + 1 + 1, 1, none⟩ = false := (v3.frozen (p := ⟨w.heap.size + 1 + 1, 1, none⟩) n2).trans pf1
      clear hHeld
      refine hK.out _ _ ?_ (fun hHeld => ?_)
      · exact ⟨c0, c1, c2, c3, c4⟩
      try simp only [Act.put, List.setIfInBounds_toArray, List.set_cons_zero, List.set_cons_succ]
      clear hK K
      refine wpAnyH_ready (rs := [6]) (by kernel_rfl) (by simp) ?_
      refine AllReadyH.cons (o := ⟨some 27, _, _, _, _, _⟩) rfl (fun K hK => ?_) AllReadyH.nil
      go_simp
      have v4 : Below W3.heap.size W3 (W3.alloc (.cells #[.slice a0_1 la0_1 ca0_1, .slice (some ⟨W2.heap.size, 0, none⟩) 1 1] 28)) := (Below.refl _ _).alloc (Nat.le_refl _) _
      have g0 : (W3.alloc (.cells #[.slice a0_1 la0_1 ca0_1, .slice (some ⟨W2.heap.size, 0, none⟩) 1 1] 28)).cell? ⟨W3.heap.size, 0, none⟩ = some (.slice a0_1 la0_1 ca0_1) := by simp
      have g1 : (W3.alloc (.cells #[.slice a0_1 la0_1 ca0_1, .slice (some ⟨W2.heap.size, 0, none⟩) 1 1] 28)).cell? ⟨W3.heap.size, 1, none⟩ = some (.slice (some ⟨W2.heap.size, 0, none⟩) 1 1) := by simp
      have s4 : W3.heap.size < (W3.alloc (.cells #[.slice a0_1 la0_1 ca0_1, .slice (some ⟨W2.heap.size, 0, none⟩) 1 1] 28)).heap.size := by simp
      generalize (W3.alloc (.cells #[.slice a0_1 la0_1 ca0_1, .slice (some ⟨W2.heap.size, 0, none⟩) 1 1] 28)) = W4 at v4 s4 g0 g1 ⊢
      have k0 : w.heap.size < W3.heap.size := by omega
      have k1 : w.heap.size + 1 < W3.heap.size := by omega
      have k2 : w.heap.size + 1 + 1 < W3.heap.size := by omega
      have HS4 := Lib.hid (HS3.out.below (v4.mono (by omega)))
      have b4' : Below w.heap.size w W4 := (b2'.trans (v3.mono (by omega))).trans (v4.mono (by omega))
      have e0 : W4.cell? ⟨w.heap.size, 0, none⟩ = some (.int .i64 a0_0) := (v4.cell (p := ⟨w.heap.size, 0, none⟩) k0).trans c0
      have e1 : W4.cell? ⟨w.heap.size, 1, none⟩ = some (.slice a0_1 la0_1 ca0_1) := (v4.cell (p := ⟨w.heap.size, 1, none⟩) k0).trans c1
      have e2 : W4.cell? ⟨w.heap.size + 1, 0, none⟩ = some (.int .i64 a1_0) := (v4.cell (p := ⟨w.heap.size + 1, 0, none⟩) k1).trans c2
      have e3 : W4.cell? ⟨w.heap.size + 1, 1, none⟩ = some (.int .i64 a1_1) := (v4.cell (p := ⟨w.heap.size + 1, 1, none⟩) k1).trans c3
      have e4 : W4.cell? ⟨w.heap.size + 1, 2, none⟩ = some (.int .i64 a1_2) := (v4.cell (p := ⟨w.heap.size + 1, 2, none⟩) k1).trans c4
      have e5 : W4.cell? ⟨w.heap.size + 1 + 1, 0, none⟩ = some (.int .i64 0) := (v4.cell (p := ⟨w.heap.size + 1 + 1, 0, none⟩) k2).trans c5
      have e6 : W4.cell? ⟨w.heap.size + 1 + 1, 1, none⟩ = some (.slice none 0 0) := (v4.cell (p := ⟨w.heap.size + 1 + 1, 1, none⟩) k2).trans c6
      have ef0 : W4.frozen? ⟨w.heap.size + 1 + 1, 0, none⟩ = false := (v4.frozen (p := ⟨w.heap.size + 1 + 1, 0, none⟩) k2).trans cf0
      have ef1 : W4.frozen? ⟨w.heap.size + 1 + 1, 1, none⟩ = false := (v4.frozen (p := ⟨w.heap.size + 1 + 1, 1, none⟩) k2).trans cf1
      clear hHeld
      refine hK.out _ _ ?_ (fun hHeld => ?_)
      · exact ⟨e0, e1, e2, e3, e4⟩
      try simp only [Act.put, List.setIfInBounds_toArray, List.set_cons_zero, List.set_cons_succ]
      clear hK K
      refine wpAnyH_ready (rs := [7]) (by kernel_rfl) (by simp) ?_
      refine AllReadyH.cons (o := ⟨some 28, _, _, _, _, _⟩) rfl (fun K hK => ?_) AllReadyH.nil
      go_simp
      refine (concatDitch_t W3.heap.size a0_1 (some ⟨W2.heap.size, 0, none⟩) la0_1 1 ca0_1 1 xa0_1 [⟨a1_0, a1_1, a1_2⟩] _ s4 g0 g1 hcat (by omega) ((RA.out.below b4').mono (by omega)) (HS4.out.mono (by omega))).mono ?_
      rintro e5 W5 ⟨B, dB, rfl, b5, hw5⟩
      have j0 : w.heap.size < W4.heap.size := by omega
      have j1 : w.heap.size + 1 < W4.heap.size := by omega
      have j2 : w.heap.size + 1 + 1 < W4.heap.size := by omega
      have b5' : Below w.heap.size w W5 := b4'.trans (b5.mono (by omega))
      have d0 : W5.cell? ⟨w.heap.size, 0, none⟩ = some (.int .i64 a0_0) := (b5.cell (p := ⟨w.heap.size, 0, none⟩) j0).trans e0
      have d1 : W5.cell? ⟨w.heap.size, 1, none⟩ = some (.slice a0_1 la0_1 ca0_1) := (b5.cell (p := ⟨w.heap.size, 1, none⟩) j0).trans e1
      have d2 : W5.cell? ⟨w.heap.size + 1, 0, none⟩ = some (.int .i64 a1_0) := (b5.cell (p := ⟨w.heap.size + 1, 0, none⟩) j1).trans e2
      have d3 : W5.cell? ⟨w.heap.size + 1, 1, none⟩ = some (.int .i64 a1_1) := (b5.cell (p := ⟨w.heap.size + 1, 1, none⟩) j1).trans e3
      have d4 : W5.cell? ⟨w.heap.size + 1, 2, none⟩ = some (.int .i64 a1_2) := (b5.cell (p := ⟨w.heap.size + 1, 2, none⟩) j1).trans e4
      have d5 : W5.cell? ⟨w.heap.size + 1 + 1, 0, none⟩ = some (.int .i64 0) := (b5.cell (p := ⟨w.heap.size + 1 + 1, 0, none⟩) j2).trans e5
      have d6 : W5.cell? ⟨w.heap.size + 1 + 1, 1, none⟩ = some (.slice none 0 0) := (b5.cell (p := ⟨w.heap.size + 1 + 1, 1, none⟩) j2).trans e6
      have df0 : W5.frozen? ⟨w.heap.size + 1 + 1, 0, none⟩ = false := (b5.frozen (p := ⟨w.heap.size + 1 + 1, 0, none⟩) j2).trans ef0
      have df1 : W5.frozen? ⟨w.heap.size + 1 + 1, 1, none⟩ = false := (b5.frozen (p := ⟨w.heap.size + 1 + 1, 1, none⟩) j2).trans ef1
      clear hHeld
      refine hK.out _ _ ?_ (fun hHeld => ?_)
      · exact ⟨d0, d1, d2, d3, d4⟩
      try simp only [Act.put, List.setIfInBounds_toArray, List.set_cons_zero, List.set_cons_succ]
      clear hK K
      ((refine wpAnyH_take (i := 8) (oi := ⟨some 29, _, _, _, _, _⟩) (v := ?_) rfl (by kernel_rfl) (by kernel_rfl) (by kernel_rfl) (fun _ _ _ h => h) (Or.inl ⟨by rfl, ?_⟩) (by assumption) ?_; rotate_left 1; (focus (intro w hSw; (try dsimp only at hSw); go_simp <;> try (first | (with_reducible rfl) | (rw [if_neg (by omega)])))); try simp only [Act.put, List.setIfInBounds_toArray, List.set_cons_zero, List.set_cons_succ]))
      refine wpAnyH_ready (rs := [9]) (by kernel_rfl) (by simp) ?_
      refine AllReadyH.cons (o := ⟨none, _, _, _, _, _⟩) rfl (fun K hK => ?_) AllReadyH.nil
      go_simp
      have u0 : ((W5.setCell ⟨w.heap.size + 1 + 1, 0, none⟩ (.int .i64 a0_0)).setCell ⟨w.heap.size + 1 + 1, 1, none⟩ (.slice B (la0_1 + 1) dB)).cell? ⟨w.heap.size + 1 + 1, 0, none⟩ = some (.int .i64 a0_0) := (World.cell?_setCell_other _ _ _ _ (by simp)).trans (World.cell?_setCell_same _ _ _ d5)
      have u1 : ((W5.setCell ⟨w.heap.size + 1 + 1, 0, none⟩ (.int .i64 a0_0)).setCell ⟨w.heap.size + 1 + 1, 1, none⟩ (.slice B (la0_1 + 1) dB)).cell? ⟨w.heap.size + 1 + 1, 1, none⟩ = some (.slice B (la0_1 + 1) dB) := World.cell?_setCell_same _ _ _ ((World.cell?_setCell_other _ _ _ _ (by simp)).trans d6)
      have hbl : Below w.heap.size w ((W5.setCell ⟨w.heap.size + 1 + 1, 0, none⟩ (.int .i64 a0_0)).setCell ⟨w.heap.size + 1 + 1, 1, none⟩ (.slice B (la0_1 + 1) dB)) := (Below.setCell b5' (by show w.heap.size ≤ w.heap.size + 1 + 1; omega) _).setCell (by show w.heap.size ≤ w.heap.size + 1 + 1; omega) _
      have hold : ∀ b o, b < w.heap.size + 1 + 1 → ((W5.setCell ⟨w.heap.size + 1 + 1, 0, none⟩ (.int .i64 a0_0)).setCell ⟨w.heap.size + 1 + 1, 1, none⟩ (.slice B (la0_1 + 1) dB)).cell? ⟨b, o, none⟩ = W5.cell? ⟨b, o, none⟩ := fun b o hb => (World.cell?_setCell_other _ _ _ _ (fun e => by injection e; omega)).trans (World.cell?_setCell_other _ _ _ _ (fun e => by injection e; omega))
      have hw6 : Wr_Ditch ((W5.setCell ⟨w.heap.size + 1 + 1, 0, none⟩ (.int .i64 a0_0)).setCell ⟨w.heap.size + 1 + 1, 1, none⟩ (.slice B (la0_1 + 1) dB)) w.heap.size B (la0_1 + 1) (xa0_1 ++ [⟨a1_0, a1_1, a1_2⟩]) := (hw5.abv (by repeat (first | exact Abv.refl _ _ | (refine Abv.setCell ?_ (by first | omega | (simp; done) | (simp; omega)) _) | apply Abv.drewN | apply Abv.drew | (refine Abv.alloc ?_ _)))).lower (by omega)
      generalize ((W5.setCell ⟨w.heap.size + 1 + 1, 0, none⟩ (.int .i64 a0_0)).setCell ⟨w.heap.size + 1 + 1, 1, none⟩ (.slice B (la0_1 + 1) dB)) = W6 at u0 u1 hold hbl hw6 ⊢
      have h0 := (hold w.heap.size 0 (by omega)).trans d0
      have h1 := (hold w.heap.size 1 (by omega)).trans d1
      have h2 := (hold (w.heap.size + 1) 0 (by omega)).trans d2
      have h3 := (hold (w.heap.size + 1) 1 (by omega)).trans d3
      have h4 := (hold (w.heap.size + 1) 2 (by omega)).trans d4
      clear hHeld hold
      refine hK.out _ _ ?_ (fun hHeld => ?_)
      · exact ⟨h0, h1, h2, h3, h4⟩
      try simp only [Act.put, List.setIfInBounds_toArray, List.set_cons_zero, List.set_cons_succ]
      clear hK K
      ((refine wpAnyH_take (i := 10) (oi := ⟨some 5, _, _, _, _, _⟩) (v := ?_) rfl (by kernel_rfl) (by kernel_rfl) (by kernel_rfl) (fun _ _ _ h => h) (Or.inl ⟨by rfl, ?_⟩) (by assumption) ?_; rotate_left 1; (focus (intro w hSw; (try dsimp only at hSw); go_simp <;> try (first | (with_reducible rfl) | (rw [if_neg (by omega)])))); try simp only [Act.put, List.setIfInBounds_toArray, List.set_cons_zero, List.set_cons_succ]))
      refine wpAnyH_done (by kernel_rfl) ?_ _
      go_wp2
      have el : (xa0_1 ++ [(⟨a1_0, a1_1, a1_2⟩ : RDitch)]).length = la0_1 + 1 := by simp [HL.out]
      exact bodyPost_ret (v := .tuple #[.agg #[.int .i64 a0_0, .slice B (la0_1 + 1) dB], .int .i64 0]) (by simp [results, Try.results12, go_sem, u0, u1]) rfl ⟨B, dB, by rw [el], hbl, by rw [el]; exact hw6⟩
  · obtain ⟨e0, e1, e2⟩ := ad_no (J := a0_0) (xs := xa0_1) (x0 := a1_0) (x1 := a1_1) (x2 := a1_2) h
    rw [e0, e1, e2]
    have e3 := ncode_ne h
    clear e0 e1 e2 h hl0
    generalize hC : ncode a0_0 xa0_1 (DOk a0_0 ⟨a1_0, a1_1, a1_2⟩) = C at *
    have EC := Lib.hid hC
    clear hC
    go_enter Try.func12, Try.ntmps12
    go_wp2
    have b0 : Below w.heap.size w (((w.alloc (.cells #[.int .i64 a0_0, .slice a0_1 la0_1 ca0_1] 30)).alloc (.cells #[.int .i64 a1_0, .int .i64 a1_1, .int .i64 a1_2] 34)).alloc (.cells #[.int .i64 0, .slice none 0 0] 30)).drew := (by repeat (first | assumption | exact Below.refl _ _ | (refine Below.setCell ?_ (by first | omega | (simp; done) | (simp; omega)) _) | apply below_drewN | apply Below.drew | (refine Below.alloc ?_ (by first | omega | (simp; done) | (simp; omega)) _)))
    have s0 : w.heap.size + 3 = (((w.alloc (.cells #[.int .i64 a0_0, .slice a0_1 la0_1 ca0_1] 30)).alloc (.cells #[.int .i64 a1_0, .int .i64 a1_1, .int .i64 a1_2] 34)).alloc (.cells #[.int .i64 0, .slice none 0 0] 30)).drew.heap.size := by show _ = (World.alloc _ _).heap.size; simp
    have q0 : ((((w.alloc (.cells #[.int .i64 a0_0, .slice a0_1 la0_1 ca0_1] 30)).alloc (.cells #[.int .i64 a1_0, .int .i64 a1_1, .int .i64 a1_2] 34)).alloc (.cells #[.int .i64 0, .slice none 0 0] 30)).drew).cell? ⟨w.heap.size, 0, none⟩ = some (.int .i64 a0_0) := by go_simp
    have q1 : ((((w.alloc (.cells #[.int .i64 a0_0, .slice a0_1 la0_1 ca0_1] 30)).alloc (.cells #[.int .i64 a1_0, .int .i64 a1_1, .int .i64 a1_2] 34)).alloc (.cells #[.int .i64 0, .slice none 0 0] 30)).drew).cell? ⟨w.heap.size, 1, none⟩ = some (.slice a0_1 la0_1 ca0_1) := by go_simp
    have q2 : ((((w.alloc (.cells #[.int .i64 a0_0, .slice a0_1 la0_1 ca0_1] 30)).alloc (.cells #[.int .i64 a1_0, .int .i64 a1_1, .int .i64 a1_2] 34)).alloc (.cells #[.int .i64 0, .slice none 0 0] 30)).drew).cell? ⟨w.heap.size + 1, 0, none⟩ = some (.int .i64 a1_0) := by go_simp
    have q3 : ((((w.alloc (.cells #[.int .i64 a0_0, .slice a0_1 la0_1 ca0_1] 30)).alloc (.cells #[.int .i64 a1_0, .int .i64 a1_1, .int .i64 a1_2] 34)).alloc (.cells #[.int .i64 0, .slice none 0 0] 30)).drew).cell? ⟨w.heap.size + 1, 1, none⟩ = some (.int .i64 a1_1) := by go_simp
    have q4 : ((((w.alloc (.cells #[.int .i64 a0_0, .slice a0_1 la0_1 ca0_1] 30)).alloc (.cells #[.int .i64 a1_0, .int .i64 a1_1, .int .i64 a1_2] 34)).alloc (.cells #[.int .i64 0, .slice none 0 0] 30)).drew).cell? ⟨w.heap.size + 1, 2, none⟩ = some (.int .i64 a1_2) := by go_simp
    have q5 : ((((w.alloc (.cells #[.int .i64 a0_0, .slice a0_1 la0_1 ca0_1] 30)).alloc (.cells #[.int .i64 a1_0, .int .i64 a1_1, .int .i64 a1_2] 34)).alloc (.cells #[.int .i64 0, .slice none 0 0] 30)).drew).cell? ⟨w.heap.size + 1 + 1, 0, none⟩ = some (.int .i64 0) := by go_simp
    have q6 : ((((w.alloc (.cells #[.int .i64 a0_0, .slice a0_1 la0_1 ca0_1] 30)).alloc (.cells #[.int .i64 a1_0, .int .i64 a1_1, .int .i64 a1_2] 34)).alloc (.cells #[.int .i64 0, .slice none 0 0] 30)).drew).cell? ⟨w.heap.size + 1 + 1, 1, none⟩ = some (.slice none 0 0) := by go_simp
    have qf0 : ((((w.alloc (.cells #[.int .i64 a0_0, .slice a0_1 la0_1 ca0_1] 30)).alloc (.cells #[.int .i64 a1_0, .int .i64 a1_1, .int .i64 a1_2] 34)).alloc (.cells #[.int .i64 0, .slice none 0 0] 30)).drew).frozen? ⟨w.heap.size + 1 + 1, 0, none⟩ = false := by go_simp
    have qf1 : ((((w.alloc (.cells #[.int .i64 a0_0, .slice a0_1 la0_1 ca0_1] 30)).alloc (.cells #[.int .i64 a1_0, .int .i64 a1_1, .int .i64 a1_2] 34)).alloc (.cells #[.int .i64 0, .slice none 0 0] 30)).drew).frozen? ⟨w.heap.size + 1 + 1, 1, none⟩ = false := by go_simp
    refine wp_region_held_drew (S := (fun w' => w'.cell? ⟨w.heap.size, 0, none⟩ = some (.int .i64 a0_0) ∧ w'.cell? ⟨w.heap.size, 1, none⟩ = some (.slice a0_1 la0_1 ca0_1) ∧ w'.cell? ⟨w.heap.size + 1, 0, none⟩ = some (.int .i64 a1_0) ∧ w'.cell? ⟨w.heap.size + 1, 1, none⟩ = some (.int .i64 a1_1) ∧ w'.cell? ⟨w.heap.size + 1, 2, none⟩ = some (.int .i64 a1_2))) (by kernel_rfl) ⟨q0, q1, q2, q3, q4⟩ (fun hHeld => ?_)
    generalize (((w.alloc (.cells #[.int .i64 a0_0, .slice a0_1 la0_1 ca0_1] 30)).alloc (.cells #[.int .i64 a1_0, .int .i64 a1_1, .int .i64 a1_2] 34)).alloc (.cells #[.int .i64 0, .slice none 0 0] 30)).drew = W0 at b0 s0 q0 q1 q2 q3 q4 q5 q6 qf0 qf1 hHeld ⊢
    clear hHeld
    have hHeld : (fun w' => w'.cell? ⟨w.heap.size, 0, none⟩ = some (.int .i64 a0_0) ∧ w'.cell? ⟨w.heap.size, 1, none⟩ = some (.slice a0_1 la0_1 ca0_1) ∧ w'.cell? ⟨w.heap.size + 1, 0, none⟩ = some (.int .i64 a1_0) ∧ w'.cell? ⟨w.heap.size + 1, 1, none⟩ = some (.int .i64 a1_1) ∧ w'.cell? ⟨w.heap.size + 1, 2, none⟩ = some (.int .i64 a1_2)) W0 := ⟨q0, q1, q2, q3, q4⟩
    ((refine wpAnyH_take (i := 0) (oi := ⟨some 7, _, _, _, _, _⟩) (v := ?_) rfl (by kernel_rfl) (by kernel_rfl) (by kernel_rfl) (fun _ _ _ h => h) (Or.inl ⟨by rfl, ?_⟩) (by assumption) ?_; rotate_left 1; (focus (intro w hSw; (try dsimp only at hSw); go_simp <;> try (first | (with_reducible rfl) | (rw [if_neg (by omega)])))); try simp only [Act.put, List.setIfInBounds_toArray, List.set_cons_zero, List.set_cons_succ]); (refine wpAnyH_take (i := 1) (oi := ⟨some 8, _, _, _, _, _⟩) (v := ?_) rfl (by kernel_rfl) (by kernel_rfl) (by kernel_rfl) (fun _ _ _ h => h) (Or.inl ⟨by rfl, ?_⟩) (by assumption) ?_; rotate_left 1; (focus (intro w hSw; (try dsimp only at hSw); go_simp <;> try (first | (with_reducible rfl) | (rw [if_neg (by omega)])))); try simp only [Act.put, List.setIfInBounds_toArray, List.set_cons_zero, List.set_cons_succ]); (refine wpAnyH_take (i := 2) (oi := ⟨some 9, _, _, _, _, _⟩) (v := ?_) rfl (by kernel_rfl) (by kernel_rfl) (by kernel_rfl) (fun _ _ _ h => h) (Or.inl ⟨by rfl, ?_⟩) (by assumption) ?_; rotate_left 1; (focus (intro w hSw; (try dsimp only at hSw); go_simp <;> try (first | (with_reducible rfl) | (rw [if_neg (by omega)])))); try simp only [Act.put, List.setIfInBounds_toArray, List.set_cons_zero, List.set_cons_succ]))
    refine wpAnyH_ready (rs := [3]) (by kernel_rfl) (by simp) ?_
    refine AllReadyH.cons (o := ⟨some 10, _, _, _, _, _⟩) rfl (fun K hK => ?_) AllReadyH.nil
    go_simp
    refine (canHave_t _ _ _ _ _ _ _ _).mono ?_
    rintro e1 W1 ⟨v1, rfl, b1, hv1⟩
    have HV1 := Lib.hid hv1
    have m0 : w.heap.size < W0.heap.size := by omega
    have m1 : w.heap.size + 1 < W0.heap.size := by omega
    have m2 : w.heap.size + 1 + 1 < W0.heap.size := by omega
    have r0 : W1.cell? ⟨w.heap.size, 0, none⟩ = some (.int .i64 a0_0) := (b1.cell (p := ⟨w.heap.size, 0, none⟩) m0).trans q0
    have r1 : W1.cell? ⟨w.heap.size, 1, none⟩ = some (.slice a0_1 la0_1 ca0_1) := (b1.cell (p := ⟨w.heap.size, 1, none⟩) m0).trans q1
    have r2 : W1.cell? ⟨w.heap.size + 1, 0, none⟩ = some (.int .i64 a1_0) := (b1.cell (p := ⟨w.heap.size + 1, 0, none⟩) m1).trans q2
    have r3 : W1.cell? ⟨w.heap.size + 1, 1, none⟩ = some (.int .i64 a1_1) := (b1.cell (p := ⟨w.heap.size + 1, 1, none⟩) m1).trans q3
    have r4 : W1.cell? ⟨w.heap.size + 1, 2, none⟩ = some (.int .i64 a1_2) := (b1.cell (p := ⟨w.heap.size + 1, 2, none⟩) m1).trans q4
    have r5 : W1.cell? ⟨w.heap.size + 1 + 1, 0, none⟩ = some (.int .i64 0) := (b1.cell (p := ⟨w.heap.size + 1 + 1, 0, none⟩) m2).trans q5
    have r6 : W1.cell? ⟨w.heap.size + 1 + 1, 1, none⟩ = some (.slice none 0 0) := (b1.cell (p := ⟨w.heap.size + 1 + 1, 1, none⟩) m2).trans q6
    have rf0 : W1.frozen? ⟨w.heap.size + 1 + 1, 0, none⟩ = false := (b1.frozen (p := ⟨w.heap.size + 1 + 1, 0, none⟩) m2).trans qf0
    have rf1 : W1.frozen? ⟨w.heap.size + 1 + 1, 1, none⟩ = false := (b1.frozen (p := ⟨w.heap.size + 1 + 1, 1, none⟩) m2).trans qf1
    have b1' : Below w.heap.size w W1 := b0.trans (b1.mono (by omega))
    have t0 : w.heap.size < W1.heap.size := by have := b1.size; omega
    have t1 : w.heap.size + 1 < W1.heap.size := by have := b1.size; omega
    have t2 : w.heap.size + 1 + 1 < W1.heap.size := by have := b1.size; omega
    clear hv1 hHeld q0 q1 q2 q3 q4 q5 q6 qf0 qf1
    refine hK.out _ _ ?_ (fun hHeld => ?_)
    · exact ⟨r0, r1, r2, r3, r4⟩
    try simp only [Act.put, List.setIfInBounds_toArray, List.set_cons_zero, List.set_cons_succ]
    clear hK K
    refine wpAnyH_ready (rs := [4]) (by kernel_rfl) (by simp) ?_
    refine AllReadyH.cons (o := ⟨some 11, _, _, _, _, _⟩) rfl (fun K hK => ?_) AllReadyH.nil
    go_simp
    refine (netCode_t _ _ _ _ xa0_1 _ (DOk a0_0 ⟨a1_0, a1_1, a1_2⟩) _ ha0_1 ((RA.out.below b1').mono (by omega)) (fun h => HV1.out h.1)).mono ?_
    rintro e2 W2 ⟨rfl, b2⟩
    rw [EC.out]
    have p0 : W2.cell? ⟨w.heap.size, 0, none⟩ = some (.int .i64 a0_0) := (b2.cell (p := ⟨w.heap.size, 0, none⟩) t0).trans r0
    have p1 : W2.cell? ⟨w.heap.size, 1, none⟩ = some (.slice a0_1 la0_1 ca0_1) := (b2.cell (p := ⟨w.heap.size, 1, none⟩) t0).trans r1
    have p2 : W2.cell? ⟨w.heap.size + 1, 0, none⟩ = some (.int .i64 a1_0) := (b2.cell (p := ⟨w.heap.size + 1, 0, none⟩) t1).trans r2
    have p3 : W2.cell? ⟨w.heap.size + 1, 1, none⟩ = some (.int .i64 a1_1) := (b2.cell (p := ⟨w.heap.size + 1, 1, none⟩) t1).trans r3
    have p4 : W2.cell? ⟨w.heap.size + 1, 2, none⟩ = some (.int .i64 a1_2) := (b2.cell (p := ⟨w.heap.size + 1, 2, none⟩) t1).trans r4
    have p5 : W2.cell? ⟨w.heap.size + 1 + 1, 0, none⟩ = some (.int .i64 0) := (b2.cell (p := ⟨w.heap.size + 1 + 1, 0, none⟩) t2).trans r5
    have p6 : W2.cell? ⟨w.heap.size + 1 + 1, 1, none⟩ = some (.slice none 0 0) := (b2.cell (p := ⟨w.heap.size + 1 + 1, 1, none⟩) t2).trans r6
    have pf0 : W2.frozen? ⟨w.heap.size + 1 + 1, 0, none⟩ = false := (b2.frozen (p := ⟨w.heap.size + 1 + 1, 0, none⟩) t2).trans rf0
    have pf1 : W2.frozen? ⟨w.heap.size + 1 + 1, 1, none⟩ = false := (b2.frozen (p := ⟨w.heap.size + 1 + 1, 1, none⟩) t2).trans rf1
    have b2' : Below w.heap.size w W2 := b1'.trans (b2.mono (by omega))
    have n0 : w.heap.size < W2.heap.size := by have := b2.size; omega
    have n1 : w.heap.size + 1 < W2.heap.size := by have := b2.size; omega
    have n2 : w.heap.size + 1 + 1 < W2.heap.size := by have := b2.size; omega
    clear hHeld r0 r1 r2 r3 r4 r5 r6 rf0 rf1
    refine hK.out _ _ ?_ (fun hHeld => ?_)
    · exact ⟨p0, p1, p2, p3, p4⟩
    try simp only [Act.put, List.setIfInBounds_toArray, List.set_cons_zero, List.set_cons_succ]
    clear hK K
    ((refine wpAnyH_take (i := 5) (oi := ⟨some 6, _, _, _, _, _⟩) (v := ?_) rfl (by kernel_rfl) (by kernel_rfl) (by kernel_rfl) (fun _ _ _ h => h) (Or.inl ⟨by rfl, ?_⟩) (by assumption) ?_; rotate_left 1; (focus (intro w hSw; (try dsimp only at hSw); go_simp <;> try (first | (with_reducible rfl) | (rw [if_neg (by omega)])))); try simp only [Act.put, List.setIfInBounds_toArray, List.set_cons_zero, List.set_cons_succ]))
    refine wpAnyH_done (by kernel_rfl) ?_ _
    clear hHeld
    go_wp2
    have u0 : ((W2.setCell ⟨w.heap.size + 1 + 1, 0, none⟩ (.int .i64 0)).setCell ⟨w.heap.size + 1 + 1, 1, none⟩ (.slice none 0 0)).cell? ⟨w.heap.size + 1 + 1, 0, none⟩ = some (.int .i64 0) := (World.cell?_setCell_other _ _ _ _ (by simp)).trans (World.cell?_setCell_same _ _ _ p5)
    have u1 : ((W2.setCell ⟨w.heap.size + 1 + 1, 0, none⟩ (.int .i64 0)).setCell ⟨w.heap.size + 1 + 1, 1, none⟩ (.slice none 0 0)).cell? ⟨w.heap.size + 1 + 1, 1, none⟩ = some (.slice none 0 0) := World.cell?_setCell_same _ _ _ ((World.cell?_setCell_other _ _ _ _ (by simp)).trans p6)
    have hbl : Below w.heap.size w ((W2.setCell ⟨w.heap.size + 1 + 1, 0, none⟩ (.int .i64 0)).setCell ⟨w.heap.size + 1 + 1, 1, none⟩ (.slice none 0 0)) := (Below.setCell b2' (by show w.heap.size ≤ w.heap.size + 1 + 1; omega) _).setCell (by show w.heap.size ≤ w.heap.size + 1 + 1; omega) _
    generalize ((W2.setCell ⟨w.heap.size + 1 + 1, 0, none⟩ (.int .i64 0)).setCell ⟨w.heap.size + 1 + 1, 1, none⟩ (.slice none 0 0)) = W6 at u0 u1 hbl ⊢
    exact bodyPost_ret (v := .tuple #[.agg #[.int .i64 0, .slice none 0 0], .int .i64 C]) (by simp [results, Try.results12, go_sem, u0, u1]) rfl ⟨none, 0, rfl, hbl, wr_nil _ _⟩

end Go.Proofs.Ytlibmlbefboolaa
