/- The walk of the law on dry spells. -/
import Derived.Test.YthjcpgabdlfojaaDryQ
import Derived.Test.YthjcpgabdlfojaaA2
import Derived.Test.YthjcpgabdlfojaaWin
namespace Go.Proofs.Ythjcpgabdlfojaa
open Go.RowKit

theorem dry_d (b o m c : Nat) (xs : List Int) (le : Int) (w : World) (rn : RnD m xs) (hp : 1 ≤ le ∧ le ≤ 120) (ra : Rd w w.heap.size (some ⟨b, o, none⟩) m xs) :
    Calls Try.prog 12 #[.slice (some ⟨b, o, none⟩) m c, .int .i64 le] w fun e w' => ∃ A d gs, e = .returned (.tuple #[.slice A (flp le (spN xs m m)).length d, .int .i64 0]) ∧ Below w.heap.size w w' ∧ w'.ownsRow w.heap.size 24 1 (.slice A (flp le (spN xs m m)).length d) (flp le (spN xs m m)).length (gs.map sl2) ∧ Prs w' w.heap.size gs (flp le (spN xs m m)) :=
  dry_impl b o m c xs le w (by have := rn.2.2; omega) (rnd_ok rn) hp ra

set_option maxRecDepth 100000 in
set_option maxHeartbeats 6400000 in
theorem law_FnDrySpells (A : Option Addr) (n c : Nat) (w : World) (hA : ByR w A n) (hn : n ≤ 3000) :
    Calls Try.prog 4 #[.slice A n c] w fun e w' => e = .returned (.bool true) ∧ Below w.heap.size w w' := by
  have HA := Lib.hid hA
  clear hA
  have hlo : decide (3000 < n ∨ 3000 < 0) = false := decide_eq_false (by omega)
  go_enter Try.func4, Try.ntmps4
  go_wp2_with fail
  refine (a2Long_t A none n c 0 0 _ (by unfold maxLen; omega) (by unfold maxLen; omega)).mono ?_
  rintro e0 w0 ⟨rfl, rfl⟩
  rw [hlo]
  go_wp2_with fail
  refine (a2Rain_t A n c _ HA.out (by omega)).mono ?_
  rintro e1 W1 ⟨R, rc, q, xs, rfl, b1, x1, r1, hqc⟩
  have D1 := Lib.hid b1
  have z1 := b1.size
  have RX1 := Lib.hid x1.rd
  have HR := Lib.hid r1
  have hq1 := r1.2.1
  have hq2 := r1.2.2
  clear b1 x1 r1
  obtain ⟨rb, ro, rfl, hrB, _⟩ := RX1.out.2 (by omega)
  have HALL := Lib.hid (spN_all xs q q (Nat.le_refl _))
  have hfl : flp 1 (spN xs q q) = spN xs q q := flp_one (fun p hp => (HALL.out p hp).pos)
  have HFM := Lib.hid (flp_max (ps := spN xs q q) (fun p hp => (HALL.out p hp).pos))
  have HZA := Lib.hid (zr_all xs q)
  have HLE := Lib.hid (spN_len xs q q)
  have HLB := Lib.hid (lgN_bd (n := q) (ps := spN xs q q) (fun p hp => (HALL.out p hp).bd))
  have HDD := Lib.hid (fun (le : Int) (W : World) (hp : 1 ≤ le ∧ le ≤ 120) (ra : Rd W W.heap.size (some ⟨rb, ro, none⟩) q xs) => dry_d rb ro q rc xs le W HR.out hp ra)
  have HLG := Lib.hid (fun (W : World) (ra : Rd W W.heap.size (some ⟨rb, ro, none⟩) q xs) => longest_impl rb ro q rc xs W (by omega) (rnd_ok HR.out) ra)
  obtain ⟨L, hL⟩ : ∃ L, L = spN xs q q := ⟨_, rfl⟩
  unfold lgD at HLG
  rw [← hL] at HALL hfl HFM HZA HLE HLB HDD HLG
  clear hL
  have hd1 := HDD.out 1
  rw [hfl] at hd1
  have HD1 := Lib.hid hd1
  clear hd1 hfl
  go_wp2_with fail
  refine (HD1.out _ (by omega) RX1.out).mono ?_
  rintro e2 W2 ⟨SA, sd, gs, rfl, b2, own2, prs2⟩
  have D2 := Lib.hid (D1.out.trans (b2.mono z1))
  have z2 := b2.size
  have RX2 := Lib.hid ((RX1.out.below b2).mono z2)
  have OW2 := Lib.hid own2
  have PR2 := Lib.hid prs2
  clear b2 own2 prs2
  go_wp2_with fail
  refine (HLG.out _ RX2.out).mono ?_
  rintro e3 W3 ⟨rfl, b3⟩
  have D3 := Lib.hid (D2.out.trans (b3.mono (by omega)))
  have z3 := b3.size
  have RX3 := Lib.hid ((RX2.out.below b3).mono z3)
  have OV3 := Lib.hid (own_vals (owns_below OW2.out b3))
  have PR3 := Lib.hid (PR2.out.below b3)
  clear b3 OW2 PR2 RX1 RX2 D1 D2 HD1 HLG
  obtain ⟨rb2, ro2, e, hrB3, hrc⟩ := RX3.out.2 (by omega)
  injection e with e
  injection e with e2 e3
  subst e2
  subst e3
  have HRC := Lib.hid hrc
  clear hrc
  go_wp2
  go_loop [8, 9] (fun s i => ∃ k : Nat, k ≤ q ∧ i = .int .i64 (k : Int) ∧ s = .int .i64 (zrN xs k)) (fun _ i => q - (intOf i).toNat)
  case atStart => exact ⟨0, by omega, rfl, rfl⟩
  case round =>
    obtain ⟨k, hk, rfl, rfl⟩ := hrel
    obtain ⟨s1, s2⟩ := zrN_bd xs k
    by_cases hlt : k < q
    · have c1 := HRC.out k hlt
      have hx := HR.out.1 k hlt
      have HS := Lib.hid (show zrN xs (k + 1) = zrN xs k + if 0 < xs.getD k 0 then 0 else 1 from rfl)
      obtain ⟨x, hxx⟩ : ∃ x, x = xs.getD k 0 := ⟨_, rfl⟩
      rw [← hxx] at c1 hx HS
      clear hxx
      generalize zrN xs k = s at *
      by_cases hp : 0 < x
      · have hx0 : (x == 0) = false := by simp; omega
        rw [if_pos hp] at HS
        go_wp2
        go_round
        case rel => exact ⟨k + 1, by omega, by go_num, by rw [HS.out]; simp⟩
        case measure => simp [intOf]; omega
      · have hx0 : (x == 0) = true := by simp; omega
        rw [if_neg hp] at HS
        go_wp2
        go_round
        case rel => exact ⟨k + 1, by omega, by go_num, by rw [HS.out]⟩
        case measure => simp [intOf]; omega
    · obtain rfl : k = q := by omega
      go_wp2
      go_loop [8, 10, 11, 12, 13] (fun s m i _ _ => ∃ j : Nat, j ≤ L.length ∧ i = .int .i64 (j : Int) ∧ s = .int .i64 (zrN xs k - smN L j) ∧ m = .int .i64 (lgN L j)) (fun _ _ i _ _ => L.length - (intOf i).toNat)
      case atStart => exact ⟨0, by omega, rfl, by simp [smN], rfl⟩
      case round =>
        obtain ⟨j, hj, rfl, rfl, rfl⟩ := hrel
        have b1 := smN_bd L j
        obtain ⟨b1, b2⟩ := b1
        have b3 := b2 hj
        rw [HZA.out] at b3
        obtain ⟨g1, g2⟩ := HLB.out j hj
        have hle := HLE.out
        clear b2
        by_cases hlt2 : j < L.length
        · obtain ⟨sg, rfl, hsg⟩ := OV3.out (by omega)
          have cs := hsg j hlt2
          have hgl := PR3.out.len
          rw [List.getElem?_map, List.getElem?_eq_getElem (show j < gs.length by omega)] at cs
          have hgk : gs[j] = gs.getD j 0 := by rw [List.getD_eq_getElem?_getD, List.getElem?_eq_getElem (show j < gs.length by omega)]; rfl
          rw [Option.map_some, hgk] at cs
          obtain ⟨c2, c3, _⟩ := PR3.out.cell hlt2
          unfold sl2 at cs
          have hm : L.getD j (0, 0) ∈ L := by
            rw [List.getD_eq_getElem?_getD, List.getElem?_eq_getElem hlt2]
            exact List.getElem_mem _
          have hdry := HALL.out _ hm
          have HS := Lib.hid (show smN L (j + 1) = smN L j + ((L.getD j (0, 0)).2 : Int) from rfl)
          have HG := Lib.hid (show lgN L (j + 1) = max (lgN L j) ((L.getD j (0, 0)).2 : Int) from rfl)
          have hsb := smN_bd L (j + 1)
          have hsb2 := hsb.2 (by omega)
          rw [HZA.out] at hsb2
          have HSB := Lib.hid hsb2
          generalize L.getD j (0, 0) = p at *
          obtain ⟨f, m⟩ := p
          obtain ⟨d1, d2, d3, d4, d5⟩ := hdry
          dsimp only at d1 d2 d3 d4 d5 c2 c3 HS HG
          generalize gs.getD j 0 = gk at cs c2 c3
          have HW := Lib.hid (RX3.out.win (show f + m ≤ k by omega))
          have hsum : sumN (winL xs m f) m = 0 := by rw [sumN_win xs m f m (Nat.le_refl _)]; exact sumAt_zero (fun i hi => (HR.out.1 i hi).1) m d2 d3
          have HSUM := Lib.hid hsum
          have HWB := Lib.hid (fun i (hi : i < m) => show -1000000000 ≤ (winL xs m f).getD i 0 ∧ (winL xs m f).getD i 0 ≤ 1000000000 by have := win_bd (rnd_ok HR.out) (show f + m ≤ k by omega) i hi; omega)
          have y1 : ((f : Int) + (m : Int)).toNat = f + m := by omega
          have y2 : ¬ (m : Int) < 1 := by omega
          have y3 : ¬ (k : Int) < (m : Int) := by omega
          have y4 : ¬ (k : Int) < (f : Int) + (m : Int) := by omega
          have y5 : (f : Int) + (m : Int) ≤ (rc : Int) := by omega
          have y6 : f + m ≤ rc := by omega
          have y7 : ¬ rc = f := by omega
          generalize hs0 : smN L j = s0 at *
          generalize hl0 : lgN L j = l0 at *
          have hpre : 0 < f → ∃ f' u, f = f' + 1 ∧ (u == (0 : Int)) = false ∧ W3.cell? ⟨rb, ro + f', none⟩ = some (.int .i64 u) := fun hf => by
            have h := d4 hf
            refine ⟨f - 1, xs.getD (f - 1) 0, by omega, ?_, HRC.out (f - 1) (by omega)⟩
            generalize xs.getD (f - 1) 0 = u at h
            simp; omega
          have hpost : f + m < k → ∃ u, (u == (0 : Int)) = false ∧ W3.cell? ⟨rb, ro + (f + m), none⟩ = some (.int .i64 u) := fun hf => by
            have h := d5 hf
            refine ⟨xs.getD (f + m) 0, ?_, HRC.out (f + m) hf⟩
            generalize xs.getD (f + m) 0 = u at h
            simp; omega
          clear d3 d4 d5 hsg hgl hgk hm hsum hsb hsb2
          by_cases hf : 0 < f
          · obtain ⟨f', u, rfl, hu, cu⟩ := hpre hf
            have hf' : (0 : Int) < ((f' + 1 : Nat) : Int) := by omega
            clear hpre
            by_cases he : (f' + 1) + m < k
            · obtain ⟨u2, hu2, cu2⟩ := hpost he
              have he' : ((((f' + 1) : Nat) : Int)) + (m : Int) < (k : Int) := by omega
              clear hpost
              by_cases hx : l0 < (m : Int)
              · go_wp2_with (go_at_call 11; refine (a2Sum_t (some ⟨rb, ro + (f' + 1), none⟩) m (rc - (f' + 1)) (winL xs m (f' + 1)) _ (by omega) HW.out HWB.out).mono ?_; rintro e w' ⟨rfl, rfl⟩; rw [HSUM.out])
                go_round
                case rel => exact ⟨j + 1, by omega, by go_num, by rw [HS.out]; exact congrArg _ (by omega), by rw [HG.out]; exact congrArg _ (by omega)⟩
                case measure => simp [intOf]; omega
              · go_wp2_with (go_at_call 11; refine (a2Sum_t (some ⟨rb, ro + (f' + 1), none⟩) m (rc - (f' + 1)) (winL xs m (f' + 1)) _ (by omega) HW.out HWB.out).mono ?_; rintro e w' ⟨rfl, rfl⟩; rw [HSUM.out])
                go_round
                case rel => exact ⟨j + 1, by omega, by go_num, by rw [HS.out]; exact congrArg _ (by omega), by rw [HG.out]; exact congrArg _ (by omega)⟩
                case measure => simp [intOf]; omega
            · have he' : ¬ ((((f' + 1) : Nat) : Int)) + (m : Int) < (k : Int) := by omega
              clear hpost
              by_cases hx : l0 < (m : Int)
              · go_wp2_with (go_at_call 11; refine (a2Sum_t (some ⟨rb, ro + (f' + 1), none⟩) m (rc - (f' + 1)) (winL xs m (f' + 1)) _ (by omega) HW.out HWB.out).mono ?_; rintro e w' ⟨rfl, rfl⟩; rw [HSUM.out])
                go_round
                case rel => exact ⟨j + 1, by omega, by go_num, by rw [HS.out]; exact congrArg _ (by omega), by rw [HG.out]; exact congrArg _ (by omega)⟩
                case measure => simp [intOf]; omega
              · go_wp2_with (go_at_call 11; refine (a2Sum_t (some ⟨rb, ro + (f' + 1), none⟩) m (rc - (f' + 1)) (winL xs m (f' + 1)) _ (by omega) HW.out HWB.out).mono ?_; rintro e w' ⟨rfl, rfl⟩; rw [HSUM.out])
                go_round
                case rel => exact ⟨j + 1, by omega, by go_num, by rw [HS.out]; exact congrArg _ (by omega), by rw [HG.out]; exact congrArg _ (by omega)⟩
                case measure => simp [intOf]; omega
          · obtain rfl : f = 0 := by omega
            clear hpre
            rw [Nat.zero_add] at hpost
            by_cases he : m < k
            · obtain ⟨u2, hu2, cu2⟩ := hpost he
              have he' : (((0 : Nat) : Int)) + (m : Int) < (k : Int) := by omega
              clear hpost
              by_cases hx : l0 < (m : Int)
              · go_wp2_with (go_at_call 11; refine (a2Sum_t (some ⟨rb, ro + 0, none⟩) m (rc - 0) (winL xs m 0) _ (by omega) HW.out HWB.out).mono ?_; rintro e w' ⟨rfl, rfl⟩; rw [HSUM.out])
                go_round
                case rel => exact ⟨j + 1, by omega, by go_num, by rw [HS.out]; exact congrArg _ (by omega), by rw [HG.out]; exact congrArg _ (by omega)⟩
                case measure => simp [intOf]; omega
              · go_wp2_with (go_at_call 11; refine (a2Sum_t (some ⟨rb, ro + 0, none⟩) m (rc - 0) (winL xs m 0) _ (by omega) HW.out HWB.out).mono ?_; rintro e w' ⟨rfl, rfl⟩; rw [HSUM.out])
                go_round
                case rel => exact ⟨j + 1, by omega, by go_num, by rw [HS.out]; exact congrArg _ (by omega), by rw [HG.out]; exact congrArg _ (by omega)⟩
                case measure => simp [intOf]; omega
            · have he' : ¬ (((0 : Nat) : Int)) + (m : Int) < (k : Int) := by omega
              clear hpost
              by_cases hx : l0 < (m : Int)
              · go_wp2_with (go_at_call 11; refine (a2Sum_t (some ⟨rb, ro + 0, none⟩) m (rc - 0) (winL xs m 0) _ (by omega) HW.out HWB.out).mono ?_; rintro e w' ⟨rfl, rfl⟩; rw [HSUM.out])
                go_round
                case rel => exact ⟨j + 1, by omega, by go_num, by rw [HS.out]; exact congrArg _ (by omega), by rw [HG.out]; exact congrArg _ (by omega)⟩
                case measure => simp [intOf]; omega
              · go_wp2_with (go_at_call 11; refine (a2Sum_t (some ⟨rb, ro + 0, none⟩) m (rc - 0) (winL xs m 0) _ (by omega) HW.out HWB.out).mono ?_; rintro e w' ⟨rfl, rfl⟩; rw [HSUM.out])
                go_round
                case rel => exact ⟨j + 1, by omega, by go_num, by rw [HS.out]; exact congrArg _ (by omega), by rw [HG.out]; exact congrArg _ (by omega)⟩
                case measure => simp [intOf]; omega
        · obtain rfl : j = L.length := by omega
          have hz0 : zrN xs k - zrN xs k = 0 := by omega
          obtain ⟨g1, g2⟩ := HLB.out L.length (Nat.le_refl _)
          have hfm := HFM.out
          generalize hmo : lgN L L.length = Mo at *
          rw [HZA.out, hz0]
          clear HZA HALL OV3 PR3 hmo hz0
          by_cases h1 : 1 < Mo
          · rw [show max 1 Mo = Mo by omega] at hfm
            have hT : 0 < (flp Mo L).length := hfm.2 (by omega)
            have hT2 : (0 : Int) < ((flp Mo L).length : Int) := by omega
            have h0 : 0 < Mo := by omega
            clear hfm
            go_wp2_with fail
            refine (HDD.out Mo _ (by omega) RX3.out).mono ?_
            rintro e6 W6 ⟨TA, td, gs6, rfl, b6, own6, prs6⟩
            have D6 := Lib.hid (D3.out.trans (b6.mono D3.out.size))
            clear b6 own6 prs6
            generalize (flp Mo L).length = T at *
            go_wp2
            go_ret
            exact ⟨ret_bool (by first | rfl | (simp; done) | (simp; omega)), D6.out⟩
          · rw [show max 1 Mo = 1 by omega] at hfm
            by_cases h0 : 0 < Mo
            · have hT : 0 < (flp 1 L).length := hfm.2 h0
              have hT2 : (0 : Int) < ((flp 1 L).length : Int) := by omega
              clear hfm
              go_wp2_with fail
              refine (HDD.out 1 _ (by omega) RX3.out).mono ?_
              rintro e6 W6 ⟨TA, td, gs6, rfl, b6, own6, prs6⟩
              have D6 := Lib.hid (D3.out.trans (b6.mono D3.out.size))
              clear b6 own6 prs6
              generalize (flp 1 L).length = T at *
              go_wp2
              go_ret
              exact ⟨ret_bool (by first | rfl | (simp; done) | (simp; omega)), D6.out⟩
            · have hT : (flp 1 L).length = 0 := by
                by_cases g : 0 < (flp 1 L).length
                · exact absurd (hfm.1 g) h0
                · omega
              have hT3 : decide ((0 : Int) < ((flp 1 L).length : Int)) = false := decide_eq_false (by omega)
              have hT4 : decide (0 < Mo) = false := decide_eq_false h0
              clear hfm
              go_wp2_with fail
              refine (HDD.out 1 _ (by omega) RX3.out).mono ?_
              rintro e6 W6 ⟨TA, td, gs6, rfl, b6, own6, prs6⟩
              have D6 := Lib.hid (D3.out.trans (b6.mono D3.out.size))
              clear b6 own6 prs6
              generalize (flp 1 L).length = T at *
              go_wp2
              go_ret
              exact ⟨ret_bool (by first | rfl | (simp; done) | (simp; omega)), D6.out⟩

theorem walk_FnDrySpells (a0 : Option Addr) (la0 ca0 : Nat) (za0 : List Int) (w : World) (wa0 : IsRow .u8 w a0 la0 ca0 za0) :
    Calls Try.prog 4 #[.slice a0 la0 ca0] w fun e w' => e = .returned (.bool true) ∧ Below w.heap.size w w' := by
  by_cases hn : la0 ≤ 3000
  · exact law_FnDrySpells a0 la0 ca0 w wa0.by hn
  · have hm0 := wa0.len
    have hlo : decide (3000 < la0 ∨ 3000 < 0) = true := decide_eq_true (by omega)
    clear wa0 hn
    go_enter Try.func4, Try.ntmps4
    go_wp2_with (go_at_call 6; refine (a2Long_t a0 none la0 ca0 0 0 _ hm0 (by unfold maxLen; omega)).mono ?_; rintro e0 w0 ⟨rfl, rfl⟩; rw [hlo])
    go_ret
    exact ⟨rfl, Below.refl _ _⟩

end Go.Proofs.Ythjcpgabdlfojaa
