import Derived.Test.YthpnkkbinffmkaaDoorTideR
namespace Go.Proofs.YthpnkkbinffmkaaDoor
open Go.RowKit

/- caps: (ka0 : la0 ≤ ca0) · sentinels: (hsent : Sent w B se0 se1 se2) -/

theorem wplApp1TT {ops : Array Oper} {rest : List Oper} {o : Oper} {a : Act} {Q : Exit → Act → World → Prop} (hgd : o.guard = none) (s x : Operand)
    (ho : o.op = .call { callee := .builtin .append, args := #[s, x], argTypes := #[56, 56] }) (W : World) (k : Nat) (hk : W.heap.size = k) (base n : Nat) (v : Value) (xs : List RTide) (x0 x1 : Int)
    (hs : a.eval s = v) (hown : W.ownsRow base 44 2 v n (csTide xs)) (hx : a.eval x = .slice (some ⟨k, 0, none⟩) 1 1) (hn : n ≤ 1048576) (hbase : base ≤ W.heap.size)
    (h : ∀ v' w', w'.ownsRow base 44 2 v' (n + 1) (csTide (xs ++ [⟨x0, x1⟩])) → Below base W w' → W.heap.size ≤ w'.heap.size → wpList Tryd.prog ops Q rest (a.put o.dst v') w') :
    wpList Tryd.prog ops Q (o :: rest) a (W.alloc (.cells #[.int .i64 x0, .int .i64 x1] 44)) := by
  refine wplAppTT hgd s x ho _ base n 1 1 (k + 1) (some ⟨k, 0, none⟩) v (csTide xs) [⟨x0, x1⟩] hs (owns_below hown ((Below.refl _ _).alloc (Nat.le_refl _) _)) hx (rd_newTide W x0 x1 k hk) (by omega) (by simp; omega) ?_
  intro v' w' h1 h2 h3
  exact h v' w' (by rw [csTide_app]; exact h1) (((Below.refl _ _).alloc hbase _).trans h2) (Nat.le_trans (by simp) h3)

set_option maxRecDepth 100000 in
set_option maxHeartbeats 800000 in
theorem specC_CutTides (a0 : Option Addr) (la0 ca0 : Nat) (xa0 : List RTide) (a1 : Int) (a2 : Int) (w : World) (ha0 : la0 ≤ 1048576) (ra0 : Rd_Tide w w.heap.size a0 la0 xa0) (fa0 : Wf_Tide xa0) (ha1 : (Lit.int .i64 a1).wf = true) (ha2 : (Lit.int .i64 a2).wf = true) (ka0 : la0 ≤ ca0) :
    Calls Tryd.prog 16 #[.slice a0 la0 ca0, .int .i64 a1, .int .i64 a2] w fun e w' => ∃ B0 dB0, e = .returned (.tuple #[.slice B0 (r0_CutTides xa0 a1 a2).length dB0, .int .i64 (r1_CutTides xa0 a1 a2)]) ∧ Below w.heap.size w w' ∧ Wr_Tide w' w.heap.size B0 (r0_CutTides xa0 a1 a2).length (r0_CutTides xa0 a1 a2) := by
  have hln := ra0.len
  have RA := Lib.hid ra0
  clear ra0 fa0 ha1 ha2 ka0
  by_cases h : TdOk la0 xa0 ∧ ctok la0 xa0 a1 a2
  · obtain ⟨b, hb0, hrr, hcc⟩ : ∃ b : Bool, (b = true ↔ TdOk (ctS xa0 la0 a1 a2).length (ctS xa0 la0 a1 a2)) ∧ r0_CutTides xa0 a1 a2 = (if b then ctS xa0 la0 a1 a2 else []) ∧ r1_CutTides xa0 a1 a2 = (if b then 0 else 6) := by
      have k0 : r0_CutTides xa0 a1 a2 = if TdOk (ctS xa0 la0 a1 a2).length (ctS xa0 la0 a1 a2) then ctS xa0 la0 a1 a2 else [] := by unfold r0_CutTides; rw [hln, if_pos h]
      have k1 : r1_CutTides xa0 a1 a2 = if TdOk (ctS xa0 la0 a1 a2).length (ctS xa0 la0 a1 a2) then 0 else 6 := by unfold r1_CutTides; rw [hln, if_pos h]
      by_cases g : TdOk (ctS xa0 la0 a1 a2).length (ctS xa0 la0 a1 a2)
      · exact ⟨true, iff_of_true rfl g, by rw [k0, if_pos g]; rfl, by rw [k1, if_pos g]; rfl⟩
      · exact ⟨false, iff_of_false (by simp) g, by rw [k0, if_neg g]; rfl, by rw [k1, if_neg g]; rfl⟩
    rw [hrr, hcc]
    have HBB := Lib.hid hb0
    have HV := Lib.hid h.1
    have HI1 := Lib.hid h.2.2.1
    have HI2 := Lib.hid h.2.2.2
    have hft := h.2.1
    have h2 := h.1.2.1
    have h40 := h.1.2.2
    obtain ⟨i1, hi1⟩ : ∃ i, i = flF xa0 a1 (la0 - 2) := ⟨_, rfl⟩
    obtain ⟨i2, hi2⟩ : ∃ i, i = flF xa0 a2 (la0 - 2) := ⟨_, rfl⟩
    have hof1 : OnFl la0 xa0 a1 i1 := hi1 ▸ flF_on h.1 h.2.2.1
    have hof2 : OnFl la0 xa0 a2 i2 := hi2 ▸ flF_on h.1 h.2.2.2
    have HE1 := Lib.hid hi1
    have HE2 := Lib.hid hi2
    have HN1 := Lib.hid (hof1.num h.1)
    have HN2 := Lib.hid (hof2.num h.1)
    have HD1 := Lib.hid (hof1.bd h.1).1
    have HD2 := Lib.hid (hof2.bd h.1).1
    obtain ⟨q1, hq1⟩ : ∃ q, rdAt xa0 la0 a1 = q := ⟨_, rfl⟩
    obtain ⟨q2, hq2⟩ : ∃ q, rdAt xa0 la0 a2 = q := ⟨_, rfl⟩
    have HLN := Lib.hid (fun k => ctL_len xa0 la0 a1 a2 k)
    have HST := Lib.hid (show ctL xa0 la0 a1 a2 la0 ++ [⟨a2, q2⟩] = ctS xa0 la0 a1 a2 by unfold ctS; rw [hq2])
    have HLS := Lib.hid (show (ctL xa0 la0 a1 a2 la0).length + 1 = (ctS xa0 la0 a1 a2).length by simp [ctS])
    have HC0 := Lib.hid (show ctL xa0 la0 a1 a2 0 = [⟨a1, q1⟩] by unfold ctL; rw [hq1]; rfl)
    have HQ1 := Lib.hid (show rdQ (tNu xa0 i1 a1) (tDe xa0 i1) = q1 by rw [← hq1, hi1]; rfl)
    have HQ2 := Lib.hid (show rdQ (tNu xa0 i2 a2) (tDe xa0 i2) = q2 by rw [← hq2, hi2]; rfl)
    have HC1 := Lib.hid (tcode_ok h.1 h.2.2.1)
    have HIN := Lib.hid (show true = decide (inT la0 xa0 a2) from (decide_eq_true h.2.2.2).symm)
    have hge : ¬ a1 ≥ a2 := by omega
    have HAT1 := Lib.hid (fun (W : World) (hW : Rd_Tide W W.heap.size a0 la0 xa0) => l08At_t a0 la0 ca0 xa0 a1 W ha0 hW h.1 h.2.2.1 i1 hi1)
    have HAT2 := Lib.hid (fun (W : World) (hW : Rd_Tide W W.heap.size a0 la0 xa0) => l08At_t a0 la0 ca0 xa0 a2 W ha0 hW h.1 h.2.2.2 i2 hi2)
    clear h hb0 hrr hcc hi1 hi2 hof1 hof2 hq1 hq2
    generalize tNu xa0 i1 a1 = nu1 at *
    generalize tDe xa0 i1 = de1 at *
    generalize tNu xa0 i2 a2 = nu2 at *
    generalize tDe xa0 i2 = de2 at *
    go_enter Tryd.func16, Tryd.ntmps16
    go_wp2_with (first | (go_at_call 25; refine (l08Code_t _ _ _ xa0 _ _ ha0 RA.out _ HC1.out).mono ?_; rintro e1 W1 ⟨rfl, b1⟩; have s1 := b1.size) | (go_at_call 39; refine (l08In_t _ _ _ xa0 _ _ ha0 (by omega) (RA.out.below' b1) true HIN.out).mono ?_; rintro e2 W2 ⟨rfl, b2⟩; have s2 : w.heap.size ≤ W2.heap.size := Nat.le_trans s1 b2.size; have d2 : Below w.heap.size w W2 := b1.trans (b2.mono s1); clear b2) | (go_at_call 40; refine (HAT1.out _ (RA.out.below' d2)).mono ?_; rintro e3 W3 ⟨rfl, b3⟩; have s3 : w.heap.size ≤ W3.heap.size := Nat.le_trans s2 b3.size; have d3 : Below w.heap.size w W3 := d2.trans (b3.mono s2); clear b3) | (go_at_call 41; refine (roundS_t _ _ q1 _ HN1.out HD1.out HQ1.out).mono ?_; rintro e4 w4 ⟨rfl, rfl⟩))
    go_loopw [11, 12] (fun v i wr => ∃ k : Nat, k ≤ la0 ∧ i = .int .i64 (k : Int) ∧ Below w.heap.size w wr ∧ w.heap.size ≤ wr.heap.size ∧ wr.ownsRow w.heap.size 44 2 v (ctL xa0 la0 a1 a2 k).length (csTide (ctL xa0 la0 a1 a2 k))) (fun _ i _ => la0 - (intOf i).toNat)
    case atStart => exact ⟨0, by omega, rfl, (by repeat (first | assumption | exact Below.refl _ _ | (refine Below.trans ?_ (d3.mono (by first | omega | (simp; done) | (simp; omega)))) | (refine Below.setCell ?_ (by first | omega | (simp; done) | (simp; omega)) _) | apply below_drewN | apply Below.drew | (refine Below.alloc ?_ (by first | omega | (simp; done) | (simp; omega)) _))), by simp; omega, by rw [HC0.out]; exact ownsR_one rfl s3⟩
    case round =>
      obtain ⟨k, hk, rfl, hb, hz, hown⟩ := hrel
      by_cases hlt : k < la0
      · obtain ⟨ab, o, rfl, hbB, hc⟩ := (RA.out.below hb).ml (by omega)
        obtain ⟨p0, p1⟩ := hc k hlt
        have hll := HLN.out k
        have hab : ab < wr.heap.size := by omega
        clear hc
        by_cases c1 : a1 < tM xa0 k
        · by_cases c2 : tM xa0 k < a2
          · have HS := Lib.hid (ctL_yes (n := la0) ⟨c1, c2⟩)
            obtain ⟨x0, hx0⟩ : ∃ x, x = tM xa0 k := ⟨_, rfl⟩
            obtain ⟨x1, hx1⟩ : ∃ x, x = tL xa0 k := ⟨_, rfl⟩
            rw [← hx0] at c1 c2 p0 HS
            rw [← hx1] at p1 HS
            clear hx0 hx1
            have c1' : x0 > a1 := c1
            generalize ctL xa0 la0 a1 a2 k = L at *
            go_wp2_with (at_builtin; refine wplApp1Tide rfl _ _ rfl _ _ (by first | rfl | (simp; done)) _ _ _ L x0 x1 rfl (by exact hown) rfl (by omega) (by first | omega | (simp; omega)) ?_; intro v9 w9 hown9 hb9 hz9)
            go_roundw
            case rel => exact ⟨k + 1, by omega, by go_num, hb.trans hb9, by omega, by rw [HS.out, List.length_append]; exact hown9⟩
            case measure => simp [intOf]; omega
          · have HS := Lib.hid (ctL_no (n := la0) (fun e : a1 < tM xa0 k ∧ tM xa0 k < a2 => c2 e.2))
            generalize tM xa0 k = x0 at *
            have c1' : x0 > a1 := c1
            go_wp2
            go_roundw
            case rel => exact ⟨k + 1, by omega, by go_num, hb, hz, by rw [HS.out]; exact hown⟩
            case measure => simp [intOf]; omega
        · have HS := Lib.hid (ctL_no (n := la0) (fun e : a1 < tM xa0 k ∧ tM xa0 k < a2 => c1 e.1))
          generalize tM xa0 k = x0 at *
          have c1' : ¬ x0 > a1 := c1
          go_wp2
          go_roundw
          case rel => exact ⟨k + 1, by omega, by go_num, hb, hz, by rw [HS.out]; exact hown⟩
          case measure => simp [intOf]; omega
      · obtain rfl : k = la0 := by omega
        have hlk := HLN.out k
        cases b with
        | true =>
          have HOKB := Lib.hid (show (true = true ↔ TdOk ((ctL xa0 k a1 a2 k).length + 1) (ctS xa0 k a1 a2)) from by rw [HLS.out]; exact iff_of_true rfl (HBB.out.1 (by trivial)))
          go_wp2_with (first | (go_at_call 40; refine (HAT2.out _ ((RA.out.below hb).mono hz)).mono ?_; rintro e5 W5 ⟨rfl, b5⟩; have s5 : wr.heap.size ≤ W5.heap.size := b5.size; have hown5 := owns_below hown b5) | (go_at_call 41; refine (roundS_t _ _ q2 _ HN2.out HD2.out HQ2.out).mono ?_; rintro e6 w6 ⟨rfl, rfl⟩) | (at_builtin; refine wplApp1Tide rfl _ _ rfl _ _ (by first | rfl | (simp; done)) _ _ _ (ctL xa0 k a1 a2 k) a2 q2 rfl (by exact hown5) rfl (by have := HLN.out k; omega) (by first | omega | (simp; omega)) ?_; intro v9 w9 hown9 hb9 hz9; rw [HST.out] at hown9; obtain ⟨B, d, rfl, hw⟩ := own_wrTide hown9; have HW := Lib.hid hw; have hz10 : w.heap.size ≤ w9.heap.size := (by have := hb.size; omega); have d9 : Below w.heap.size w w9 := hb.trans ((b5.mono hz).trans hb9); clear hown9 hw) | (go_at_call 35; refine (l08Ok_any _ _ _ (ctS xa0 k a1 a2) _ (by have := HLN.out k; omega) (HW.out.rd.mono (by first | omega | (simp; done) | (simp; omega))) true (iff_of_true rfl (HOKB.out.1 (by trivial)))).mono ?_; rintro e7 W7 ⟨rfl, b7⟩))
          go_ret2
          exact ⟨B, ⟨d, by rw [← HLS.out]; rfl⟩, d9.trans (b7.mono hz10), by rw [← HLS.out]; exact HW.out.below b7⟩
        | false =>
          have HOKB := Lib.hid (show (false = true ↔ TdOk ((ctL xa0 k a1 a2 k).length + 1) (ctS xa0 k a1 a2)) from by rw [HLS.out]; exact iff_of_false (by simp) (fun g => absurd (HBB.out.2 g) (by simp)))
          go_wp2_with (first | (go_at_call 40; refine (HAT2.out _ ((RA.out.below hb).mono hz)).mono ?_; rintro e5 W5 ⟨rfl, b5⟩; have s5 : wr.heap.size ≤ W5.heap.size := b5.size; have hown5 := owns_below hown b5) | (go_at_call 41; refine (roundS_t _ _ q2 _ HN2.out HD2.out HQ2.out).mono ?_; rintro e6 w6 ⟨rfl, rfl⟩) | (at_builtin; refine wplApp1Tide rfl _ _ rfl _ _ (by first | rfl | (simp; done)) _ _ _ (ctL xa0 k a1 a2 k) a2 q2 rfl (by exact hown5) rfl (by have := HLN.out k; omega) (by first | omega | (simp; omega)) ?_; intro v9 w9 hown9 hb9 hz9; rw [HST.out] at hown9; obtain ⟨B, d, rfl, hw⟩ := own_wrTide hown9; have HW := Lib.hid hw; have hz10 : w.heap.size ≤ w9.heap.size := (by have := hb.size; omega); have d9 : Below w.heap.size w w9 := hb.trans ((b5.mono hz).trans hb9); clear hown9 hw) | (go_at_call 35; refine (l08Ok_any _ _ _ (ctS xa0 k a1 a2) _ (by have := HLN.out k; omega) (HW.out.rd.mono (by first | omega | (simp; done) | (simp; omega))) false HOKB.out).mono ?_; rintro e7 W7 ⟨rfl, b7⟩))
          go_ret2
          first | exact ⟨none, ⟨0, rfl⟩, d9.trans (b7.mono hz10), rfl, fun h => absurd h (by simp)⟩ | exact ⟨none, 0, rfl, d9.trans (b7.mono hz10), rfl, fun h => absurd h (by simp)⟩
  · have e0 : r0_CutTides xa0 a1 a2 = [] := by unfold r0_CutTides; rw [hln, if_neg h]
    have e1 : r1_CutTides xa0 a1 a2 = tcode la0 xa0 (ctok la0 xa0 a1 a2) := by unfold r1_CutTides; rw [hln, if_neg h]
    rw [e0, e1]
    by_cases h1 : TdOk la0 xa0 ∧ inT la0 xa0 a1
    · have hno : ¬ ctok la0 xa0 a1 a2 := fun g => h ⟨h1.1, g⟩
      rw [tcode_no h1.1 hno]
      have HC1 := Lib.hid (tcode_ok h1.1 h1.2)
      have h2 := h1.1.2.1
      have h40 := h1.1.2.2
      by_cases g2 : inT la0 xa0 a2
      · have hge : a1 ≥ a2 := by
          rcases Int.lt_or_le a1 a2 with c | c
          · exact absurd ⟨c, h1.2, g2⟩ hno
          · exact c
        have HIN := Lib.hid (show true = decide (inT la0 xa0 a2) from (decide_eq_true g2).symm)
        clear e0 e1 h h1 hno g2
        go_enter Tryd.func16, Tryd.ntmps16
        go_wp2_with (first | (go_at_call 25; refine (l08Code_t _ _ _ xa0 _ _ ha0 RA.out _ HC1.out).mono ?_; rintro e1 W1 ⟨rfl, b1⟩; have s1 := b1.size) | (go_at_call 39; refine (l08In_t _ _ _ xa0 _ _ ha0 (by omega) (RA.out.below' b1) true HIN.out).mono ?_; rintro e2 W2 ⟨rfl, b2⟩; have s2 : w.heap.size ≤ W2.heap.size := Nat.le_trans s1 b2.size; have d2 : Below w.heap.size w W2 := b1.trans (b2.mono s1); clear b2))
        go_ret2
        exact ⟨none, 0, rfl, d2, rfl, fun h => absurd h (by simp)⟩
      · have HIN := Lib.hid (show false = decide (inT la0 xa0 a2) from (decide_eq_false g2).symm)
        clear e0 e1 h h1 hno g2
        go_enter Tryd.func16, Tryd.ntmps16
        go_wp2_with (first | (go_at_call 25; refine (l08Code_t _ _ _ xa0 _ _ ha0 RA.out _ HC1.out).mono ?_; rintro e1 W1 ⟨rfl, b1⟩; have s1 := b1.size) | (go_at_call 39; refine (l08In_t _ _ _ xa0 _ _ ha0 (by omega) (RA.out.below' b1) false HIN.out).mono ?_; rintro e2 W2 ⟨rfl, b2⟩; have s2 : w.heap.size ≤ W2.heap.size := Nat.le_trans s1 b2.size; have d2 : Below w.heap.size w W2 := b1.trans (b2.mono s1); clear b2))
        go_ret2
        exact ⟨none, 0, rfl, d2, rfl, fun h => absurd h (by simp)⟩
    · have e3 := tcode_ne h1
      have HCE := Lib.hid (show tcode la0 xa0 (inT la0 xa0 a1) = tcode la0 xa0 (ctok la0 xa0 a1 a2) by
        by_cases g : TdOk la0 xa0
        · rw [tcode_no g (fun q => h1 ⟨g, q⟩), tcode_no g (fun q => h1 ⟨g, q.2.1⟩)]
        · rw [tcode_bad g, tcode_bad g])
      rw [HCE.out] at e3
      obtain ⟨C, hC⟩ : ∃ C, tcode la0 xa0 (ctok la0 xa0 a1 a2) = C := ⟨_, rfl⟩
      rw [hC] at e3 ⊢
      have HC1 := Lib.hid (HCE.out.trans hC)
      clear e0 e1 h h1 hC HCE
      go_enter Tryd.func16, Tryd.ntmps16
      go_wp2_with (first | (go_at_call 25; refine (l08Code_t _ _ _ xa0 _ _ ha0 RA.out _ HC1.out).mono ?_; rintro e1 W1 ⟨rfl, b1⟩; have s1 := b1.size))
      go_ret2
      exact ⟨none, 0, rfl, b1, rfl, fun h => absurd h (by simp)⟩

set_option maxRecDepth 100000 in
set_option maxHeartbeats 1600000 in
theorem cut_any (A : Option Addr) (n c : Nat) (xs : List RTide) (a1 a2 : Int) (w : World) (se0 se1 se2 : Addr) (hs : Sent w w.heap.size se0 se1 se2) (hn : n ≤ 1048576) (ha : Rd_Tide w w.heap.size A n xs) (h : TdOk n xs) (hck : ctok n xs a1 a2) (b : Bool) (hb0 : b = true ↔ TdOk (ctS xs n a1 a2).length (ctS xs n a1 a2)) :
    Calls Tryd.prog 42 #[.slice A n c, .int .i64 a1, .int .i64 a2] w fun e w' => Below w.heap.size w w' ∧ (b = true → ∃ B d, e = .returned (.tuple #[.slice B (ctS xs n a1 a2).length d, .nilIface]) ∧ Wr_Tide w' w.heap.size B (ctS xs n a1 a2).length (ctS xs n a1 a2)) ∧ (b = false → e = .returned (.tuple #[.slice none 0 0, .iface 122 (.pointer (some se1))])) := by
  have HA := Lib.hid ha
  have HV := Lib.hid h
  have HSN := Lib.hid hs
  have HBB := Lib.hid hb0
  have hxl := ha.len
  have h2 := h.2.1
  have h40 := h.2.2
  obtain ⟨q1, hq1⟩ : ∃ q, rdAt xs n a1 = q := ⟨_, rfl⟩
  obtain ⟨q2, hq2⟩ : ∃ q, rdAt xs n a2 = q := ⟨_, rfl⟩
  have HRA1 := Lib.hid (fun (W : World) (hW : Rd_Tide W W.heap.size A n xs) => roundedAt_t A n c xs a1 q1 W hn hW h hck.2.1 hq1)
  have HRA2 := Lib.hid (fun (W : World) (hW : Rd_Tide W W.heap.size A n xs) => roundedAt_t A n c xs a2 q2 W hn hW h hck.2.2 hq2)
  have hft := hck.1
  have HLN := Lib.hid (fun k => ctL_len xs n a1 a2 k)
  have HST := Lib.hid (show ctL xs n a1 a2 n ++ [⟨a2, q2⟩] = ctS xs n a1 a2 by unfold ctS; rw [hq2])
  have HLS := Lib.hid (show (ctL xs n a1 a2 n).length + 1 = (ctS xs n a1 a2).length by simp [ctS])
  have HC0 := Lib.hid (show ctL xs n a1 a2 0 = [⟨a1, q1⟩] by unfold ctL; rw [hq1]; rfl)
  clear ha h hs hck hb0 hq1 hq2
  go_enter Tryd.func42, Tryd.ntmps42
  go_wp2_with (first | (go_at_call 54; refine (HRA1.out _ HA.out).mono ?_; rintro e3 W3 ⟨rfl, b3⟩; have s3 : w.heap.size ≤ W3.heap.size := b3.size))
  go_loopw [8, 10, 17] (fun v _ i wr => ∃ k : Nat, k ≤ n ∧ i = .int .i64 (k : Int) ∧ Below w.heap.size w wr ∧ w.heap.size ≤ wr.heap.size ∧ wr.ownsRow w.heap.size 44 2 v (ctL xs n a1 a2 k).length (csTide (ctL xs n a1 a2 k))) (fun _ _ i _ => n - (intOf i).toNat)
  case atStart => exact ⟨0, by omega, rfl, (by repeat (first | assumption | exact Below.refl _ _ | (refine Below.trans ?_ (b3.mono (by first | omega | (simp; done) | (simp; omega)))) | (refine Below.setCell ?_ (by first | omega | (simp; done) | (simp; omega)) _) | apply below_drewN | apply Below.drew | (refine Below.alloc ?_ (by first | omega | (simp; done) | (simp; omega)) _))), by simp; omega, by rw [HC0.out]; exact ownsR_one rfl s3⟩
  case round =>
    obtain ⟨k, hk, rfl, hb, hz, hown⟩ := hrel
    by_cases hlt : k < n
    · obtain ⟨ab, o, rfl, hbB, hc⟩ := (HA.out.below hb).ml (by omega)
      obtain ⟨p0, p1⟩ := hc k hlt
      have hll := HLN.out k
      have hab : ab < wr.heap.size := by omega
      have ne1 : ¬ ab = wr.heap.size := by omega
      have hown2 := fun (O : Obj) => owns_below hown ((Below.refl wr.heap.size wr).alloc (Nat.le_refl _) O)
      clear hc
      by_cases c1 : a1 < tM xs k
      · by_cases c2 : tM xs k < a2
        · have HS := Lib.hid (ctL_yes (n := n) ⟨c1, c2⟩)
          obtain ⟨x0, hx0⟩ : ∃ x, x = tM xs k := ⟨_, rfl⟩
          obtain ⟨x1, hx1⟩ : ∃ x, x = tL xs k := ⟨_, rfl⟩
          rw [← hx0] at c1 c2 p0 HS
          rw [← hx1] at p1 HS
          clear hx0 hx1
          generalize ctL xs n a1 a2 k = L at *
          go_wp2_with (at_builtin; refine wplApp1TT rfl _ _ rfl _ _ (by first | rfl | (simp; done)) _ _ _ L x0 x1 rfl (by exact hown2 _) rfl (by omega) (by first | omega | (simp; omega)) ?_; intro v9 w9 hown9 hb9 hz9)
          go_roundw
          case rel => exact ⟨k + 1, by omega, by go_num, hb.trans (((Below.refl _ _).alloc hz _).trans hb9), by simp at hz9; omega, by rw [HS.out, List.length_append]; exact hown9⟩
          case measure => simp [intOf]; omega
        · have HS := Lib.hid (ctL_no (n := n) (fun e : a1 < tM xs k ∧ tM xs k < a2 => c2 e.2))
          generalize tM xs k = x0 at *
          generalize tL xs k = x1 at *
          go_wp2
          go_roundw
          case rel => exact ⟨k + 1, by omega, by go_num, hb.alloc hz _, by simp; omega, by rw [HS.out]; exact hown2 _⟩
          case measure => simp [intOf]; omega
      · have HS := Lib.hid (ctL_no (n := n) (fun e : a1 < tM xs k ∧ tM xs k < a2 => c1 e.1))
        generalize tM xs k = x0 at *
        generalize tL xs k = x1 at *
        go_wp2
        go_roundw
        case rel => exact ⟨k + 1, by omega, by go_num, hb.alloc hz _, by simp; omega, by rw [HS.out]; exact hown2 _⟩
        case measure => simp [intOf]; omega
    · obtain rfl : k = n := by omega
      have hlk := HLN.out k
      cases b with
      | true =>
        go_wp2_with (first | (go_at_call 54; refine (HRA2.out _ ((HA.out.below hb).mono hz)).mono ?_; rintro e5 W5 ⟨rfl, b5⟩; have s5 : wr.heap.size ≤ W5.heap.size := b5.size; have hown5 := owns_below hown b5) | (at_builtin; refine wplApp1TT rfl _ _ rfl _ _ (by first | rfl | (simp; done)) _ _ _ (ctL xs k a1 a2 k) a2 q2 rfl (by exact hown5) rfl (by have := HLN.out k; omega) (by first | omega | (simp; omega)) ?_; intro v9 w9 hown9 hb9 hz9; rw [HST.out] at hown9; obtain ⟨B, d, hv9, hw⟩ := own_wrTide hown9; have HCP := Lib.hid (show ∃ g cap, v9 = .slice (some ⟨g, 0, none⟩) ((ctL xs k a1 a2 k).length + 1) cap ∧ w.heap.size ≤ g ∧ g < w9.heap.size ∧ (ctL xs k a1 a2 k).length + 1 ≤ cap from own_form' hown9 (by omega)); subst hv9; have HW := Lib.hid hw; have hz10 : w.heap.size ≤ w9.heap.size := (by have := hb.size; omega); have d9 : Below w.heap.size w w9 := hb.trans ((b5.mono hz).trans hb9); have hcd : (ctL xs k a1 a2 k).length + 1 ≤ d := (by obtain ⟨g', cap', e', _, _, hh⟩ := HCP.out; injection e' with _ _ e3; omega); clear hown9 hw) | (go_at_call 50; refine (validTides_any _ _ _ (ctS xs k a1 a2) _ (by have := HLN.out k; omega) hcd (HW.out.rd.mono (by first | omega | (simp; done) | (simp; omega))) true (by rw [HLS.out]; exact iff_of_true rfl (HBB.out.1 (by trivial)))).mono ?_; rintro e7 W7 ⟨rfl, b7⟩; have d7 : Below w.heap.size w W7 := d9.trans (b7.mono hz10)))
        go_ret2
        exact ⟨d7, B, ⟨d, by rw [← HLS.out]; rfl⟩, by rw [← HLS.out]; exact HW.out.below b7⟩
      | false =>
        go_wp2_with (first | (go_at_call 54; refine (HRA2.out _ ((HA.out.below hb).mono hz)).mono ?_; rintro e5 W5 ⟨rfl, b5⟩; have s5 : wr.heap.size ≤ W5.heap.size := b5.size; have hown5 := owns_below hown b5) | (at_builtin; refine wplApp1TT rfl _ _ rfl _ _ (by first | rfl | (simp; done)) _ _ _ (ctL xs k a1 a2 k) a2 q2 rfl (by exact hown5) rfl (by have := HLN.out k; omega) (by first | omega | (simp; omega)) ?_; intro v9 w9 hown9 hb9 hz9; rw [HST.out] at hown9; obtain ⟨B, d, hv9, hw⟩ := own_wrTide hown9; have HCP := Lib.hid (show ∃ g cap, v9 = .slice (some ⟨g, 0, none⟩) ((ctL xs k a1 a2 k).length + 1) cap ∧ w.heap.size ≤ g ∧ g < w9.heap.size ∧ (ctL xs k a1 a2 k).length + 1 ≤ cap from own_form' hown9 (by omega)); subst hv9; have HW := Lib.hid hw; have hz10 : w.heap.size ≤ w9.heap.size := (by have := hb.size; omega); have d9 : Below w.heap.size w w9 := hb.trans ((b5.mono hz).trans hb9); have hcd : (ctL xs k a1 a2 k).length + 1 ≤ d := (by obtain ⟨g', cap', e', _, _, hh⟩ := HCP.out; injection e' with _ _ e3; omega); clear hown9 hw) | (go_at_call 50; refine (validTides_any _ _ _ (ctS xs k a1 a2) _ (by have := HLN.out k; omega) hcd (HW.out.rd.mono (by first | omega | (simp; done) | (simp; omega))) false (by rw [HLS.out]; exact iff_of_false (by simp) (fun g => absurd (HBB.out.2 g) (by simp)))).mono ?_; rintro e7 W7 ⟨rfl, b7⟩; have d7 : Below w.heap.size w W7 := d9.trans (b7.mono hz10); have g1 := (HSN.out.below d7).v1))
        go_quiet (fail)
        go_wp2
        go_ret2
        exact ⟨d7.trans (by repeat (first | assumption | exact Below.refl _ _ | (refine Below.setCell ?_ (by first | omega | (simp; done) | (simp; omega)) _) | apply below_drewN | apply Below.drew | (refine Below.alloc ?_ (by first | omega | (simp; done) | (simp; omega)) _))), rfl⟩

set_option maxRecDepth 100000 in
set_option maxHeartbeats 600000 in
theorem implC_CutTides (a0 : Option Addr) (la0 ca0 : Nat) (xa0 : List RTide) (a1 : Int) (a2 : Int) (w : World) (ha0 : la0 ≤ 1048576) (ra0 : Rd_Tide w w.heap.size a0 la0 xa0) (fa0 : Wf_Tide xa0) (ha1 : (Lit.int .i64 a1).wf = true) (ha2 : (Lit.int .i64 a2).wf = true) (ka0 : la0 ≤ ca0) (se0 se1 se2 : Addr) (hsent : Sent w w.heap.size se0 se1 se2) :
    Calls Tryd.prog 17 #[.slice a0 la0 ca0, .int .i64 a1, .int .i64 a2] w fun e w' => ∃ B0 dB0, e = .returned (.tuple #[.slice B0 (r0_CutTides xa0 a1 a2).length dB0, .int .i64 (r1_CutTides xa0 a1 a2)]) ∧ Below w.heap.size w w' ∧ Wr_Tide w' w.heap.size B0 (r0_CutTides xa0 a1 a2).length (r0_CutTides xa0 a1 a2) := by
  have hln := ra0.len
  have RA := Lib.hid ra0
  have HSN := Lib.hid hsent
  clear ra0 fa0 ha1 ha2 hsent
  by_cases h : TdOk la0 xa0 ∧ ctok la0 xa0 a1 a2
  · obtain ⟨b, hb0, hrr, hcc⟩ : ∃ b : Bool, (b = true ↔ TdOk (ctS xa0 la0 a1 a2).length (ctS xa0 la0 a1 a2)) ∧ r0_CutTides xa0 a1 a2 = (if b then ctS xa0 la0 a1 a2 else []) ∧ r1_CutTides xa0 a1 a2 = (if b then 0 else 6) := by
      have k0 : r0_CutTides xa0 a1 a2 = if TdOk (ctS xa0 la0 a1 a2).length (ctS xa0 la0 a1 a2) then ctS xa0 la0 a1 a2 else [] := by unfold r0_CutTides; rw [hln, if_pos h]
      have k1 : r1_CutTides xa0 a1 a2 = if TdOk (ctS xa0 la0 a1 a2).length (ctS xa0 la0 a1 a2) then 0 else 6 := by unfold r1_CutTides; rw [hln, if_pos h]
      by_cases g : TdOk (ctS xa0 la0 a1 a2).length (ctS xa0 la0 a1 a2)
      · exact ⟨true, iff_of_true rfl g, by rw [k0, if_pos g]; rfl, by rw [k1, if_pos g]; rfl⟩
      · exact ⟨false, iff_of_false (by simp) g, by rw [k0, if_neg g]; rfl, by rw [k1, if_neg g]; rfl⟩
    rw [hrr, hcc]
    have HBB := Lib.hid hb0
    have HV := Lib.hid h.1
    have HI1 := Lib.hid h.2.2.1
    have HI2 := Lib.hid h.2.2.2
    have hft := h.2.1
    have h2 := h.1.2.1
    have h40 := h.1.2.2
    have HC := Lib.hid (tcode_ok h.1 h.2)
    have HCK := Lib.hid h.2
    have HM1 := Lib.hid (show true = hasM la0 xa0 a1 from by rw [hasM_ok h.1, decide_eq_true h.2.2.1])
    have HM2 := Lib.hid (show true = hasM la0 xa0 a2 from by rw [hasM_ok h.1, decide_eq_true h.2.2.2])
    have HDE := Lib.hid (fun (_ : TdOk la0 xa0) => show true = decide (ctok la0 xa0 a1 a2) from (decide_eq_true h.2).symm)
    clear h hb0 hrr hcc
    cases b with
    | true =>
      go_enter Tryd.func17, Tryd.ntmps17
      go_wp2_with (first | (go_at_call 31; refine (hasMinute_t _ _ _ xa0 a2 _ ha0 (RA.out.below' d8) _ HM2.out).mono ?_; rintro e1 W1 ⟨rfl, b1⟩; have s1 : w.heap.size ≤ W1.heap.size := Nat.le_trans s8 b1.size; have d1 : Below w.heap.size w W1 := d8.trans (b1.mono s8)) | (go_at_call 31; refine (hasMinute_t _ _ _ xa0 a1 _ ha0 RA.out _ HM1.out).mono ?_; rintro e8 W8 ⟨rfl, b8⟩; have s8 := b8.size; have d8 : Below w.heap.size w W8 := b8) | (go_at_call 29; refine (tidesCode_t _ _ _ xa0 _ (ctok la0 xa0 a1 a2) _ ha0 ka0 (RA.out.below' d1) HDE.out _ HC.out).mono ?_; rintro e2 W2 ⟨rfl, b2⟩; have s2 : w.heap.size ≤ W2.heap.size := Nat.le_trans s1 b2.size; have d2 : Below w.heap.size w W2 := d1.trans (b2.mono s1)) | (go_at_call 42; refine (cut_any _ _ _ xa0 _ _ _ se0 se1 se2 ((HSN.out.below d2).mono s2) ha0 (RA.out.below' d2) HV.out HCK.out true (iff_of_true rfl (HBB.out.1 (by trivial)))).mono ?_; rintro e4 W4 ⟨b4, hyes, hno⟩; have d4 : Below w.heap.size w W4 := d2.trans (b4.mono s2); obtain ⟨B, d, he, hw⟩ := hyes rfl; have HW := Lib.hid (hw.lower s2); clear hw hyes hno; subst he) | (go_at_call 33; refine (tideCode_nil se0 se1 se2 w.heap.size _ (HSN.out.below d4)).mono ?_; rintro e5 W5 ⟨rfl, rfl⟩))
      go_ret2
      first | exact ⟨B, ⟨d, rfl⟩, d4, HW.out⟩ | exact ⟨B, d, rfl, d4, HW.out⟩
    | false =>
      go_enter Tryd.func17, Tryd.ntmps17
      go_wp2_with (first | (go_at_call 31; refine (hasMinute_t _ _ _ xa0 a2 _ ha0 (RA.out.below' d8) _ HM2.out).mono ?_; rintro e1 W1 ⟨rfl, b1⟩; have s1 : w.heap.size ≤ W1.heap.size := Nat.le_trans s8 b1.size; have d1 : Below w.heap.size w W1 := d8.trans (b1.mono s8)) | (go_at_call 31; refine (hasMinute_t _ _ _ xa0 a1 _ ha0 RA.out _ HM1.out).mono ?_; rintro e8 W8 ⟨rfl, b8⟩; have s8 := b8.size; have d8 : Below w.heap.size w W8 := b8) | (go_at_call 29; refine (tidesCode_t _ _ _ xa0 _ (ctok la0 xa0 a1 a2) _ ha0 ka0 (RA.out.below' d1) HDE.out _ HC.out).mono ?_; rintro e2 W2 ⟨rfl, b2⟩; have s2 : w.heap.size ≤ W2.heap.size := Nat.le_trans s1 b2.size; have d2 : Below w.heap.size w W2 := d1.trans (b2.mono s1)) | (go_at_call 42; refine (cut_any _ _ _ xa0 _ _ _ se0 se1 se2 ((HSN.out.below d2).mono s2) ha0 (RA.out.below' d2) HV.out HCK.out false (iff_of_false (by simp) (fun g => absurd (HBB.out.2 g) (by simp)))).mono ?_; rintro e4 W4 ⟨b4, hyes, hno⟩; have d4 : Below w.heap.size w W4 := d2.trans (b4.mono s2); have hn9 := hno rfl; clear hyes hno; subst hn9) | (go_at_call 33; refine (tideCode_1 se0 se1 se2 w.heap.size _ (HSN.out.below d4)).mono ?_; rintro e5 W5 ⟨rfl, rfl⟩))
      go_ret2
      first | exact ⟨none, ⟨0, rfl⟩, d4, rfl, fun h => absurd h (by simp)⟩ | exact ⟨none, 0, rfl, d4, rfl, fun h => absurd h (by simp)⟩
  · have e0 : r0_CutTides xa0 a1 a2 = [] := by unfold r0_CutTides; rw [hln, if_neg h]
    have e1 : r1_CutTides xa0 a1 a2 = tcode la0 xa0 (ctok la0 xa0 a1 a2) := by unfold r1_CutTides; rw [hln, if_neg h]
    rw [e0, e1]
    have e3 := tcode_ne h
    obtain ⟨C, hC⟩ : ∃ C, tcode la0 xa0 (ctok la0 xa0 a1 a2) = C := ⟨_, rfl⟩
    rw [hC] at e3 ⊢
    have HC := Lib.hid hC
    by_cases g0 : a1 < a2
    · cases g1 : hasM la0 xa0 a1 with
      | true =>
        obtain ⟨m2, hm2⟩ : ∃ m, m = hasM la0 xa0 a2 := ⟨_, rfl⟩
        have HM1 := Lib.hid g1.symm
        have HM2 := Lib.hid hm2
        have HDE := Lib.hid (fun (hh : TdOk la0 xa0) => show m2 = decide (ctok la0 xa0 a1 a2) from by
          rw [hm2, hasM_ok hh]
          rw [hasM_ok hh] at g1
          exact decide_eq_decide.2 ⟨fun q => ⟨g0, of_decide_eq_true g1, q⟩, fun q => q.2.2⟩)
        clear e0 e1 h hC g1 hm2
        go_enter Tryd.func17, Tryd.ntmps17
        go_wp2_with (first | (go_at_call 31; refine (hasMinute_t _ _ _ xa0 a2 _ ha0 (RA.out.below' d8) _ HM2.out).mono ?_; rintro e1 W1 ⟨rfl, b1⟩; have s1 : w.heap.size ≤ W1.heap.size := Nat.le_trans s8 b1.size; have d1 : Below w.heap.size w W1 := d8.trans (b1.mono s8)) | (go_at_call 31; refine (hasMinute_t _ _ _ xa0 a1 _ ha0 RA.out _ HM1.out).mono ?_; rintro e8 W8 ⟨rfl, b8⟩; have s8 := b8.size; have d8 : Below w.heap.size w W8 := b8) | (go_at_call 29; refine (tidesCode_t _ _ _ xa0 _ (ctok la0 xa0 a1 a2) _ ha0 ka0 (RA.out.below' d1) HDE.out _ HC.out).mono ?_; rintro e2 W2 ⟨rfl, b2⟩; have s2 : w.heap.size ≤ W2.heap.size := Nat.le_trans s1 b2.size; have d2 : Below w.heap.size w W2 := d1.trans (b2.mono s1)))
        go_ret2
        exact ⟨none, 0, rfl, d2, rfl, fun h => absurd h (by simp)⟩
      | false =>
        have HM1 := Lib.hid g1.symm
        have HDE := Lib.hid (fun (hh : TdOk la0 xa0) => show false = decide (ctok la0 xa0 a1 a2) from by
          rw [hasM_ok hh] at g1
          exact (decide_eq_false (fun q => of_decide_eq_false g1 q.2.1)).symm)
        clear e0 e1 h hC g1
        go_enter Tryd.func17, Tryd.ntmps17
        go_wp2_with (first | (go_at_call 31; refine (hasMinute_t _ _ _ xa0 a1 _ ha0 RA.out _ HM1.out).mono ?_; rintro e8 W8 ⟨rfl, b8⟩; have s8 := b8.size; have d8 : Below w.heap.size w W8 := b8) | (go_at_call 29; refine (tidesCode_t _ _ _ xa0 _ (ctok la0 xa0 a1 a2) _ ha0 ka0 (RA.out.below' d8) HDE.out _ HC.out).mono ?_; rintro e2 W2 ⟨rfl, b2⟩; have s2 : w.heap.size ≤ W2.heap.size := Nat.le_trans s8 b2.size; have d2 : Below w.heap.size w W2 := d8.trans (b2.mono s8)))
        go_ret2
        exact ⟨none, 0, rfl, d2, rfl, fun h => absurd h (by simp)⟩
    · have HDE := Lib.hid (fun (hh : TdOk la0 xa0) => show false = decide (ctok la0 xa0 a1 a2) from (decide_eq_false (fun q => g0 q.1)).symm)
      clear e0 e1 h hC
      go_enter Tryd.func17, Tryd.ntmps17
      go_wp2_with (first | (go_at_call 29; refine (tidesCode_t _ _ _ xa0 _ (ctok la0 xa0 a1 a2) _ ha0 ka0 RA.out HDE.out _ HC.out).mono ?_; rintro e2 W2 ⟨rfl, b2⟩; have s2 : w.heap.size ≤ W2.heap.size := b2.size; have d2 : Below w.heap.size w W2 := b2))
      go_ret2
      exact ⟨none, 0, rfl, d2, rfl, fun h => absurd h (by simp)⟩

end Go.Proofs.YthpnkkbinffmkaaDoor
