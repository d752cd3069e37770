import Derived.Test.YtagnhlcgfcppjabLandO
import Derived.Test.YtagnhlcgfcppjabLandW
import Derived.Test.YtagnhlcgfcppjabClos
namespace Go.Proofs.Ytagnhlcgfcppjab
open Go.RowKit

theorem mk_ix (p : Int → Bool) (xs : List Int) (n : Nat) : marksOf p xs n = ixN (fun k => p (xs.getD k 0)) n := by
  induction n with
  | zero => rfl
  | succ n ih => simp only [marksOf, ixN]; rw [ih]

def r0_LowestCells (a0_0 : Int) (a0_1 : Int) (xa0_2 : List Int) : List Int := if LandOk a0_0 a0_1 xa0_2 then marksOf (fun x => decide (x = least xa0_2 (xa0_2.length - 1))) xa0_2 xa0_2.length else []
def r1_LowestCells (a0_0 : Int) (a0_1 : Int) (xa0_2 : List Int) : Int := if LandOk a0_0 a0_1 xa0_2 then 0 else 1
theorem len_r0_LowestCells (a0_0 : Int) (a0_1 : Int) (xa0_2 : List Int) : (r0_LowestCells a0_0 a0_1 xa0_2).length ≤ 1048576 := by
  unfold r0_LowestCells
  split
  · rename_i h
    have := h.len
    have := marksOf_len (fun x => decide (x = least xa0_2 (xa0_2.length - 1))) xa0_2 xa0_2.length
    omega
  · simp

theorem min_t (a b : Int) (w : World) : Calls Try.prog 60 #[.int .i64 a, .int .i64 b] w fun e w' => e = .returned (.int .i64 (min a b)) ∧ w = w' := by
  by_cases h : a < b
  · rw [show min a b = a by omega]
    go_enter Try.func60, Try.ntmps60
    go_wp2
    go_ret
    exact ⟨rfl, rfl⟩
  · rw [show min a b = b by omega]
    go_enter Try.func60, Try.ntmps60
    go_wp2
    go_ret
    exact ⟨rfl, rfl⟩
theorem least_add (xs : List Int) (k : Nat) : least xs (k + 1) = min (least xs k) (xs.getD (k + 1) 0) := rfl

set_option maxHeartbeats 800000 in
theorem slMin_t (A : Option Addr) (n c : Nat) (xs : List Int) (w : World) (hn : n ≤ 1048576) (h0 : 0 < n) (ha : Rd w w.heap.size A n xs) :
    Calls Try.prog 61 #[.slice A n c] w fun e w' => e = .returned (.int .i64 (least xs (n - 1))) ∧ w = w' := by
  obtain ⟨b, o, rfl, hbB, hc⟩ := ha.2 h0
  have HC := Lib.hid hc
  have c0 := hc 0 h0
  clear hc ha
  rw [Nat.add_zero] at c0
  go_enter Try.func61, Try.ntmps61
  go_wp2
  go_loop [3, 4] (fun t i => ∃ q : Nat, q + 1 ≤ n ∧ i = .int .i64 ((q + 1 : Nat) : Int) ∧ t = .int .i64 (least xs q)) (fun _ i => n - (intOf i).toNat)
  case atStart => exact ⟨0, by omega, rfl, by simp [least]⟩
  case round =>
    obtain ⟨q, hq, rfl, rfl⟩ := hrel
    by_cases hlt : q + 1 < n
    · have c1 := HC.out (q + 1) hlt
      have E := Lib.hid (least_add xs q)
      obtain ⟨x, hx⟩ : ∃ x, x = xs.getD (q + 1) 0 := ⟨_, rfl⟩
      obtain ⟨l, hl⟩ : ∃ x, x = least xs q := ⟨_, rfl⟩
      rw [← hx] at c1 E
      rw [← hl] at E
      rw [← hl]
      clear hx hl
      by_cases hm : l < x
      · have E3 := Lib.hid (show min l x = l by omega)
        go_wp2
        go_round
        case rel => exact ⟨q + 1, by omega, by go_num, by rw [E.out, E3.out]⟩
        case measure => simp [intOf]; omega
      · have E3 := Lib.hid (show min l x = x by omega)
        go_wp2
        go_round
        case rel => exact ⟨q + 1, by omega, by go_num, by rw [E.out, E3.out]⟩
        case measure => simp [intOf]; omega
    · have hq' : least xs q = least xs (n - 1) := by rw [show n - 1 = q by omega]
      have HQ := Lib.hid hq'
      clear hq'
      go_wp2
      go_ret
      exact ⟨ret_int HQ.out, rfl⟩

set_option maxHeartbeats 3200000 in
theorem specC_LowestCells (a0_0 : Int) (a0_1 : Int) (a0_2 : Option Addr) (la0_2 ca0_2 : Nat) (xa0_2 : List Int) (w : World) (ha0_0 : (Lit.int .i64 a0_0).wf = true) (ha0_1 : (Lit.int .i64 a0_1).wf = true) (ha0_2 : la0_2 ≤ 1048576) (ra0_2 : Rd w w.heap.size a0_2 la0_2 xa0_2) (fa0_2 : Wf xa0_2) :
    Calls Try.prog 26 #[.agg #[.int .i64 a0_0, .int .i64 a0_1, .slice a0_2 la0_2 ca0_2]] w fun e w' => ∃ B0 dB0, e = .returned (.tuple #[.slice B0 (r0_LowestCells a0_0 a0_1 xa0_2).length dB0, .int .i64 (r1_LowestCells a0_0 a0_1 xa0_2)]) ∧ Below w.heap.size w w' ∧ Wr w' w.heap.size B0 (r0_LowestCells a0_0 a0_1 xa0_2).length (r0_LowestCells a0_0 a0_1 xa0_2) := by
  have hln := ra0_2.1
  have RA := Lib.hid ra0_2
  clear ra0_2
  by_cases h : LandOk a0_0 a0_1 xa0_2
  · have hlen := h.len
    rw [show r1_LowestCells a0_0 a0_1 xa0_2 = 0 from if_pos h, show r0_LowestCells a0_0 a0_1 xa0_2 = marksOf (fun x => decide (x = least xa0_2 (xa0_2.length - 1))) xa0_2 xa0_2.length from if_pos h, hln]
    obtain ⟨lst, hlst⟩ : ∃ x, x = least xa0_2 (la0_2 - 1) := ⟨_, rfl⟩
    rw [← hlst]
    have HL := Lib.hid hlst.symm
    clear hlst
    obtain ⟨b0, o0, e0, hb0, hc0⟩ := RA.out.2 (by omega)
    have c0 := hc0 0 (by omega)
    rw [Nat.add_zero] at c0
    have H := Lib.hid h
    clear h hc0
    subst e0
    go_enter Try.func26, Try.ntmps26
    go_wp2_with (go_at_call 50; refine (l03Ok_t _ a0_0 a0_1 _ la0_2 ca0_2 xa0_2 _ ha0_2 ⟨by simp, by simp, by simp⟩ ((RA.out.below (by repeat (first | assumption | exact Below.refl _ _ | (refine Below.setCell ?_ (by first | omega | (simp; done) | (simp; omega)) _) | apply below_drewN | apply Below.drew | (refine Below.alloc ?_ (by first | omega | (simp; done) | (simp; omega)) _)))).mono (by first | omega | (simp; done) | (simp; omega))) H.out).mono ?_; rintro e w' ⟨rfl, m, rfl⟩)
    go_loop [4, 5] (fun t i => ∃ q : Nat, q + 1 ≤ la0_2 ∧ i = .int .i64 ((q + 1 : Nat) : Int) ∧ t = .int .i64 (least xa0_2 q)) (fun _ i => la0_2 - (intOf i).toNat)
    case atStart => exact ⟨0, by omega, rfl, by simp [least]⟩
    case round =>
      obtain ⟨q, hq, rfl, rfl⟩ := hrel
      by_cases hlt : q + 1 < la0_2
      · obtain ⟨b, o, e, hbB, hc⟩ := RA.out.2 (by omega)
        injection e with e
        injection e with e1 e2
        subst e1
        subst e2
        have c1 := hc (q + 1) hlt
        clear hc
        have E := Lib.hid (least_add xa0_2 q)
        obtain ⟨x, hx⟩ : ∃ x, x = xa0_2.getD (q + 1) 0 := ⟨_, rfl⟩
        rw [← hx] at c1 E
        clear hx
        go_wp2_with (go_at_call 60; refine (min_t _ _ _).mono ?_; rintro e w' ⟨rfl, rfl⟩)
        go_round
        case rel => exact ⟨q + 1, by omega, by go_num, by rw [E.out]⟩
        case measure => simp [intOf]; omega
      · have hq' : least xa0_2 q = lst := by rw [← HL.out, show la0_2 - 1 = q by omega]
        rw [hq']
        clear hq'
        go_wp2
        go_loopw [6, 7] (fun v i wr => ∃ q : Nat, q ≤ la0_2 ∧ i = .int .i64 (q : Int) ∧ Below w.heap.size w wr ∧ w.heap.size + 1 ≤ wr.heap.size ∧ LandAt wr w.heap.size a0_0 a0_1 (some ⟨b0, o0, none⟩) la0_2 ca0_2 ∧ wr.ownsRow (w.heap.size + 1) 2 1 v (marksOf (fun x => decide (x = lst)) xa0_2 q).length ((marksOf (fun x => decide (x = lst)) xa0_2 q).map (Value.int .i64))) (fun _ i _ => la0_2 - (intOf i).toNat)
        case atStart => exact ⟨0, by omega, rfl, (by repeat (first | assumption | exact Below.refl _ _ | (refine Below.setCell ?_ (by first | omega | (simp; done) | (simp; omega)) _) | apply below_drewN | apply Below.drew | (refine Below.alloc ?_ (by first | omega | (simp; done) | (simp; omega)) _))), by simp, LandAt.below (B := w.heap.size + 1) (w := w.alloc (.cells #[.int .i64 a0_0, .int .i64 a0_1, .slice (some ⟨b0, o0, none⟩) la0_2 ca0_2] 27)) ⟨by simp, by simp, by simp⟩ (by repeat (first | assumption | exact Below.refl _ _ | (refine Below.setCell ?_ (by first | omega | (simp; done) | (simp; omega)) _) | apply below_drewN | apply Below.drew | (refine Below.alloc ?_ (by first | omega | (simp; done) | (simp; omega)) _))) (by omega), owns_made (by simp) (Nat.le_refl _)⟩
        case round =>
          obtain ⟨q2, hq2, rfl, hb, hz, hat, hown⟩ := hrel
          have hat' := hat
          obtain ⟨y0, y1, y2⟩ := hat'
          by_cases hlt : q2 < la0_2
          · obtain ⟨b, o, e, hbB, hc⟩ := RA.out.2 (by omega)
            injection e with e
            injection e with e1 e2
            subst e1
            subst e2
            have c1 := (hb.cell (p := ⟨b0, o0 + q2, none⟩) hbB).trans (hc q2 hlt)
            clear hc
            have hml := marksOf_len (fun x => decide (x = lst)) xa0_2 q2
            by_cases he : xa0_2.getD q2 0 = lst
            · have EY := Lib.hid (marksOf_yes (p := fun x => decide (x = lst)) (xs := xa0_2) (k := q2) (decide_eq_true he))
              have et : (xa0_2.getD q2 0 == lst) = true := by simp only [beq_iff_eq]; exact he
              obtain ⟨x, hx⟩ : ∃ x, x = xa0_2.getD q2 0 := ⟨_, rfl⟩
              rw [← hx] at c1 et
              clear hx he
              go_wp2_with (at_builtin; refine wpl_app1 rfl _ _ rfl _ _ _ _ _ _ rfl (by exact hown) rfl (by omega) (by exact hz) ?_; intro v1 w1 hown1 hb1 hz1)
              go_roundw
              case rel => exact ⟨q2 + 1, by omega, by go_num, hb.trans (hb1.mono (by omega)), Nat.le_trans hz hz1, hat.below hb1 (by omega), by rw [EY.out]; simpa using hown1⟩
              case measure => simp [intOf]; omega
            · have EN := Lib.hid (marksOf_no (p := fun x => decide (x = lst)) (xs := xa0_2) (k := q2) (decide_eq_false he))
              have et : (xa0_2.getD q2 0 == lst) = false := by simp only [beq_eq_false_iff_ne]; exact he
              obtain ⟨x, hx⟩ : ∃ x, x = xa0_2.getD q2 0 := ⟨_, rfl⟩
              rw [← hx] at c1 et
              clear hx he
              go_wp2
              go_roundw
              case rel => exact ⟨q2 + 1, by omega, by go_num, hb, hz, hat, by rw [EN.out]; exact hown⟩
              case measure => simp [intOf]; omega
          · obtain rfl : q2 = la0_2 := by omega
            go_wp2
            obtain ⟨B, d, rfl, hw⟩ := own_wr hown
            go_ret2
            exact ⟨B, d, rfl, hb, hw.lower (by omega)⟩
  · rw [show r1_LowestCells a0_0 a0_1 xa0_2 = 1 from if_neg h, show r0_LowestCells a0_0 a0_1 xa0_2 = [] from if_neg h]
    have H := Lib.hid h
    clear h hln
    go_enter Try.func26, Try.ntmps26
    go_wp2_with (go_at_call 50; refine (l03Ok_f _ a0_0 a0_1 _ la0_2 ca0_2 xa0_2 _ ha0_2 ⟨by simp, by simp, by simp⟩ ((RA.out.below (by repeat (first | assumption | exact Below.refl _ _ | (refine Below.setCell ?_ (by first | omega | (simp; done) | (simp; omega)) _) | apply below_drewN | apply Below.drew | (refine Below.alloc ?_ (by first | omega | (simp; done) | (simp; omega)) _)))).mono (by first | omega | (simp; done) | (simp; omega))) H.out).mono ?_; rintro e w' ⟨rfl, m, rfl⟩)
    go_ret2
    exact ⟨none, 0, rfl, (by repeat (first | assumption | exact Below.refl _ _ | (refine Below.setCell ?_ (by first | omega | (simp; done) | (simp; omega)) _) | apply below_drewN | apply Below.drew | (refine Below.alloc ?_ (by first | omega | (simp; done) | (simp; omega)) _))), rfl, fun h => absurd h (by simp)⟩

set_option maxHeartbeats 3200000 in
theorem implC_LowestCells (a0_0 : Int) (a0_1 : Int) (a0_2 : Option Addr) (la0_2 ca0_2 : Nat) (xa0_2 : List Int) (w : World) (ha0_0 : (Lit.int .i64 a0_0).wf = true) (ha0_1 : (Lit.int .i64 a0_1).wf = true) (ha0_2 : la0_2 ≤ 1048576) (ra0_2 : Rd w w.heap.size a0_2 la0_2 xa0_2) (fa0_2 : Wf xa0_2) :
    Calls Try.prog 27 #[.agg #[.int .i64 a0_0, .int .i64 a0_1, .slice a0_2 la0_2 ca0_2]] w fun e w' => ∃ B0 dB0, e = .returned (.tuple #[.slice B0 (r0_LowestCells a0_0 a0_1 xa0_2).length dB0, .int .i64 (r1_LowestCells a0_0 a0_1 xa0_2)]) ∧ Below w.heap.size w w' ∧ Wr w' w.heap.size B0 (r0_LowestCells a0_0 a0_1 xa0_2).length (r0_LowestCells a0_0 a0_1 xa0_2) := by
  have hln := ra0_2.1
  have RA := Lib.hid ra0_2
  clear ra0_2
  by_cases h : LandOk a0_0 a0_1 xa0_2
  · have hlen := h.len
    rw [show r1_LowestCells a0_0 a0_1 xa0_2 = 0 from if_pos h, show r0_LowestCells a0_0 a0_1 xa0_2 = marksOf (fun x => decide (x = least xa0_2 (xa0_2.length - 1))) xa0_2 xa0_2.length from if_pos h, hln, mk_ix]
    obtain ⟨lst, hlst⟩ : ∃ x, x = least xa0_2 (la0_2 - 1) := ⟨_, rfl⟩
    rw [← hlst]
    have HL := Lib.hid hlst.symm
    have EC := Lib.hid (lcode_ok (p := True) h trivial)
    clear h hlst
    go_enter Try.func27, Try.ntmps27
    go_wp2_with (first | (go_at_call 54; refine (landCode_t _ _ _ _ _ xa0_2 true True _ ha0_2 ((RA.out.below (by repeat (first | assumption | exact Below.refl _ _ | (refine Below.setCell ?_ (by first | omega | (simp; done) | (simp; omega)) _) | apply below_drewN | apply Below.drew | (refine Below.alloc ?_ (by first | omega | (simp; done) | (simp; omega)) _)))).mono (by first | omega | (simp; done) | (simp; omega))) (fun _ => rfl)).mono ?_; rintro e2 W2 ⟨rfl, b2⟩; rw [EC.out]; obtain ⟨k1, f1⟩ := bcell b2; have s2 : w.heap.size < W2.heap.size := (by have := b2.size; simp at this; omega); have z0 : W2.cell? ⟨w.heap.size, 0, none⟩ = some (.int .i64 a0_0) := (by rw [k1 _ _ (by first | omega | (simp; done) | (simp; omega))]; first | (simp; done) | go_simp); have zf0 : W2.frozen? ⟨w.heap.size, 0, none⟩ = false := (by rw [f1 _ _ (by first | omega | (simp; done) | (simp; omega))]; first | (simp; done) | go_simp); have z1 : W2.cell? ⟨w.heap.size, 1, none⟩ = some (.int .i64 a0_1) := (by rw [k1 _ _ (by first | omega | (simp; done) | (simp; omega))]; first | (simp; done) | go_simp); have zf1 : W2.frozen? ⟨w.heap.size, 1, none⟩ = false := (by rw [f1 _ _ (by first | omega | (simp; done) | (simp; omega))]; first | (simp; done) | go_simp); have z2 : W2.cell? ⟨w.heap.size, 2, none⟩ = some (.slice a0_2 la0_2 ca0_2) := (by rw [k1 _ _ (by first | omega | (simp; done) | (simp; omega))]; first | (simp; done) | go_simp); have zf2 : W2.frozen? ⟨w.heap.size, 2, none⟩ = false := (by rw [f1 _ _ (by first | omega | (simp; done) | (simp; omega))]; first | (simp; done) | go_simp); clear k1 f1; have d2 : Below w.heap.size w W2 := (by repeat (first | assumption | exact Below.refl _ _ | (refine Below.trans ?_ (b2.mono (by first | omega | (simp; done) | (simp; omega)))) | (refine Below.setCell ?_ (by first | omega | (simp; done) | (simp; omega)) _) | apply below_drewN | apply Below.drew | (refine Below.alloc ?_ (by first | omega | (simp; done) | (simp; omega)) _)))) | (go_at_call 61; refine (slMin_t _ _ _ xa0_2 _ ha0_2 (by omega) ((RA.out.below (by repeat (first | assumption | exact Below.refl _ _ | (refine Below.trans ?_ (d2.mono (by first | omega | (simp; done) | (simp; omega)))) | (refine Below.setCell ?_ (by first | omega | (simp; done) | (simp; omega)) _) | apply below_drewN | apply Below.drew | (refine Below.alloc ?_ (by first | omega | (simp; done) | (simp; omega)) _)))).mono (by first | omega | (simp; done) | (simp; omega)))).mono ?_; rintro e w' ⟨rfl, rfl⟩; rw [HL.out]) | (go_at_call 62; refine (ix_lc (.pointer (some ⟨w.heap.size, 0, none⟩)) (.pointer (some ⟨W2.heap.size, 0, none⟩)) la0_2 (fun k => decide (xa0_2.getD k 0 = lst)) _ (by omega) ?hcl).mono ?_; (case hcl => exact fun i k W v hi hk hb hv => (by obtain ⟨ab, o, rfl, hbB, hc⟩ := RA.out.2 (by omega); have bW : Below W2.heap.size W2 W := ((Below.refl W2.heap.size W2).alloc (Nat.le_refl _) _).trans (hb.mono (by simp)); have dW : Below w.heap.size w W := d2.trans (bW.mono (by omega)); exact lcCl_t _ _ k la0_2 ca0_2 ab o i lst _ W hi hk ha0_2 ((bW.cell (p := ⟨w.heap.size, 2, none⟩) (by omega)).trans z2) ((hb.cell (p := ⟨W2.heap.size, 0, none⟩) (by simp)).trans (by simp)) ((dW.cell (p := ⟨ab, o + k, none⟩) hbB).trans (hc k hk)) v hv)); rintro e3 W3 ⟨B, d, rfl, b3, hw⟩; have HW := Lib.hid (hw.lower (show w.heap.size ≤ _ from (by simp; omega))); have d3 : Below w.heap.size w W3 := d2.trans ((((Below.refl W2.heap.size W2).alloc (Nat.le_refl _) _).trans (b3.mono (by simp))).mono (by omega)); clear hw b3))
    go_ret2
    exact ⟨B, d, rfl, d3, HW.out⟩
  · rw [show r1_LowestCells a0_0 a0_1 xa0_2 = 1 from if_neg h, show r0_LowestCells a0_0 a0_1 xa0_2 = [] from if_neg h]
    have EC := Lib.hid (lcode_bad (p := True) h)
    clear h hln
    go_enter Try.func27, Try.ntmps27
    go_wp2_with (first | (go_at_call 54; refine (landCode_t _ _ _ _ _ xa0_2 true True _ ha0_2 ((RA.out.below (by repeat (first | assumption | exact Below.refl _ _ | (refine Below.setCell ?_ (by first | omega | (simp; done) | (simp; omega)) _) | apply below_drewN | apply Below.drew | (refine Below.alloc ?_ (by first | omega | (simp; done) | (simp; omega)) _)))).mono (by first | omega | (simp; done) | (simp; omega))) (fun _ => rfl)).mono ?_; rintro e2 W2 ⟨rfl, b2⟩; rw [EC.out]))
    go_ret2
    exact ⟨none, 0, rfl, (by repeat (first | assumption | exact Below.refl _ _ | (refine Below.trans ?_ (b2.mono (by first | omega | (simp; done) | (simp; omega)))) | (refine Below.setCell ?_ (by first | omega | (simp; done) | (simp; omega)) _) | apply below_drewN | apply Below.drew | (refine Below.alloc ?_ (by first | omega | (simp; done) | (simp; omega)) _))), rfl, fun h => absurd h (by simp)⟩

end Go.Proofs.Ytagnhlcgfcppjab
