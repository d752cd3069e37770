/- The law of DrySpells. -/
import Derived.Test.YtagnhlcgfcppjacPairsL
import Derived.Test.YtagnhlcgfcppjacCDry
import Derived.Test.YtagnhlcgfcppjacCDryS
namespace Go.Proofs.Ytagnhlcgfcppjac
open Go.RowKit

def dsOk (xs : List Int) (le : Int) : Prop := RainOk xs.length xs ∧ rsP le
instance (xs : List Int) (le : Int) : Decidable (dsOk xs le) := by unfold dsOk; exact inferInstance
def dsP (xs : List Int) (le : Int) : List (Nat × Nat) := if dsOk xs le then flp le (spN xs xs.length xs.length) else []
def dsC (xs : List Int) (le : Int) : Int := rcode xs.length xs (rsP le)
theorem dsP_len (xs : List Int) (le : Int) : (dsP xs le).length ≤ 120 := by
  unfold dsP
  split
  · rename_i h
    have h1 := flp_len le (spN xs xs.length xs.length)
    have h2 := spN_len xs xs.length xs.length
    have h3 := h.1.2.2
    omega
  · simp

set_option maxHeartbeats 800000 in
theorem ds_spec (A : Option Addr) (n c : Nat) (xs : List Int) (le : Int) (w : World) (hn : n ≤ 1048576) (ra : Rd w w.heap.size A n xs) :
    Calls Try.prog 40 #[.slice A n c, .int .i64 le] w fun e w' => ∃ B d gs, e = .returned (.tuple #[.slice B (dsP xs le).length d, .int .i64 (dsC xs le)]) ∧ Below w.heap.size w w' ∧ Outer w' w.heap.size w'.heap.size B (dsP xs le).length gs ∧ PrI w' w.heap.size gs (toI (dsP xs le)) := by
  have hln := ra.1
  by_cases h : RainOk n xs ∧ rsP le
  · have e0 : dsP xs le = flp le (spN xs n n) := by unfold dsP; rw [if_pos (by unfold dsOk; rw [hln]; exact h), hln]
    have e1 : dsC xs le = 0 := by unfold dsC; rw [hln]; exact rcode_ok h.1 h.2
    rw [e0, e1]
    obtain ⟨b, o, rfl, _⟩ := ra.2 (by have := h.1.2.1; omega)
    exact (dry_spec b o n c xs le w hn h.1 h.2 ra).mono fun e w' ⟨B, d, gs, he, hb, ho, hp⟩ => ⟨B, d, gs, he, hb, outer_of ho, hp.toI⟩
  · have e0 : dsP xs le = [] := by unfold dsP; rw [if_neg (by unfold dsOk; rw [hln]; exact h)]
    have e1 : dsC xs le = rcode n xs (rsP le) := by unfold dsC; rw [hln]
    rw [e0, e1]
    have e2 := rcode_ne h
    have RA := Lib.hid ra
    clear e0 e1 h ra
    generalize hC : rcode n xs (rsP le) = C at *
    have HC := Lib.hid hC
    clear hC
    go_enter Try.func40, Try.ntmps40
    go_wp2_with (first | (go_at_call 63; refine (l06Code_t _ _ _ xs _ _ hn RA.out).mono ?_; rintro e1 w1 ⟨rfl, rfl⟩; rw [HC.out]))
    go_ret2
    exact ⟨none, 0, [], rfl, Below.refl _ _, outer_nil _ _ _, prI_nil _ _⟩

set_option maxHeartbeats 800000 in
theorem ds_impl (A : Option Addr) (n c : Nat) (xs : List Int) (le : Int) (w : World) (hn : n ≤ 1048576) (ra : Rd w w.heap.size A n xs) :
    Calls Try.prog 41 #[.slice A n c, .int .i64 le] w fun e w' => ∃ B d gs, e = .returned (.tuple #[.slice B (dsP xs le).length d, .int .i64 (dsC xs le)]) ∧ Below w.heap.size w w' ∧ Outer w' w.heap.size w'.heap.size B (dsP xs le).length gs ∧ PrI w' w.heap.size gs (toI (dsP xs le)) := by
  have hln := ra.1
  by_cases h : RainOk n xs ∧ rsP le
  · have e0 : dsP xs le = flp le (spN xs n n) := by unfold dsP; rw [if_pos (by unfold dsOk; rw [hln]; exact h), hln]
    have e1 : dsC xs le = 0 := by unfold dsC; rw [hln]; exact rcode_ok h.1 h.2
    rw [e0, e1]
    obtain ⟨b, o, rfl, _⟩ := ra.2 (by have := h.1.2.1; omega)
    exact (dry_impl b o n c xs le w hn h.1 h.2 ra).mono fun e w' ⟨B, d, gs, he, hb, ho, hp⟩ => ⟨B, d, gs, he, hb, outer_of ho, hp.toI⟩
  · have e0 : dsP xs le = [] := by unfold dsP; rw [if_neg (by unfold dsOk; rw [hln]; exact h)]
    have e1 : dsC xs le = rcode n xs (rsP le) := by unfold dsC; rw [hln]
    rw [e0, e1]
    have e2 := rcode_ne h
    have RA := Lib.hid ra
    clear e0 e1 h ra
    by_cases hp : 1 ≤ le ∧ le ≤ 120
    · have HP := Lib.hid (show true = decide (rsP le) from (decide_eq_true hp).symm)
      generalize hC : rcode n xs (rsP le) = C at *
      have HC := Lib.hid hC
      clear hC
      go_enter Try.func41, Try.ntmps41
      go_wp2_with (first | (go_at_call 54; first | (refine (within_t _ _ _ _ (by omega)).mono ?_; rintro e w' ⟨rfl, rfl⟩) | (refine (within_f _ _ _ _ (by omega)).mono ?_; rintro e w' ⟨rfl, rfl⟩)) | (go_at_call 65; refine (rainCode_t _ _ _ xs _ (rsP le) true hn ((RA.out.below (by repeat (first | assumption | exact Below.refl _ _ | (refine Below.setCell ?_ (by first | omega | (simp; done) | (simp; omega)) _) | apply below_drewN | apply Below.drew | (refine Below.alloc ?_ (by first | omega | (simp; done) | (simp; omega)) _)))).mono (by first | omega | (simp; done) | (simp; omega))) HP.out).mono ?_; rintro e1 w1 ⟨rfl, rfl⟩; rw [HC.out]))
      go_ret2
      exact ⟨none, 0, [], rfl, (by repeat (first | assumption | exact Below.refl _ _ | (refine Below.setCell ?_ (by first | omega | (simp; done) | (simp; omega)) _) | apply below_drewN | apply Below.drew | (refine Below.alloc ?_ (by first | omega | (simp; done) | (simp; omega)) _))), outer_nil _ _ _, prI_nil _ _⟩
    · have HP := Lib.hid (show false = decide (rsP le) from (decide_eq_false hp).symm)
      generalize hC : rcode n xs (rsP le) = C at *
      have HC := Lib.hid hC
      have hp' : le < 1 ∨ 120 < le := by omega
      clear hC hp
      go_enter Try.func41, Try.ntmps41
      go_wp2_with (first | (go_at_call 54; first | (refine (within_t _ _ _ _ (by omega)).mono ?_; rintro e w' ⟨rfl, rfl⟩) | (refine (within_f _ _ _ _ (by omega)).mono ?_; rintro e w' ⟨rfl, rfl⟩)) | (go_at_call 65; refine (rainCode_t _ _ _ xs _ (rsP le) false hn ((RA.out.below (by repeat (first | assumption | exact Below.refl _ _ | (refine Below.setCell ?_ (by first | omega | (simp; done) | (simp; omega)) _) | apply below_drewN | apply Below.drew | (refine Below.alloc ?_ (by first | omega | (simp; done) | (simp; omega)) _)))).mono (by first | omega | (simp; done) | (simp; omega))) HP.out).mono ?_; rintro e1 w1 ⟨rfl, rfl⟩; rw [HC.out]))
      go_ret2
      exact ⟨none, 0, [], rfl, (by repeat (first | assumption | exact Below.refl _ _ | (refine Below.setCell ?_ (by first | omega | (simp; done) | (simp; omega)) _) | apply below_drewN | apply Below.drew | (refine Below.alloc ?_ (by first | omega | (simp; done) | (simp; omega)) _))), outer_nil _ _ _, prI_nil _ _⟩

set_option maxRecDepth 100000 in
set_option maxHeartbeats 3200000 in
theorem law_FnExactDrySpells (A : Option Addr) (n c : Nat) (xs : List Int) (le : Int) (w : World) (hn : n ≤ 1048576) (hA : Rd w w.heap.size A n xs) :
    Calls Try.prog 13 #[.slice A n c, .int .i64 le] w fun e w' => e = .returned (.bool true) ∧ Below w.heap.size w w' := by
  have HS := Lib.hid (fun (B : Option Addr) (d : Nat) (W : World) (h : Rd W W.heap.size B n xs) => ds_spec B n d xs le W hn h)
  have HI := Lib.hid (fun (B : Option Addr) (d : Nat) (W : World) (h : Rd W W.heap.size B n xs) => ds_impl B n d xs le W hn h)
  have hm := dsP_len xs le
  have HA := Lib.hid hA
  obtain ⟨P, hP⟩ : ∃ P, P = toI (dsP xs le) := ⟨_, rfl⟩
  have hPl : P.length = (dsP xs le).length := by rw [hP]; exact toI_len _
  obtain ⟨m, hmm⟩ : ∃ m, m = (dsP xs le).length := ⟨_, rfl⟩
  rw [← hP, ← hmm] at HS HI
  rw [← hmm] at hPl hm
  generalize dsC xs le = C at *
  have ec : (C != C) = false := by simp
  clear hP hmm hA
  go_enter Try.func13, Try.ntmps13
  go_wp2_with fail
  refine (toInts_x A n c xs _ hn HA.out).mono ?_
  rintro e1 W1 ⟨B1, d1, rfl, b1, x1⟩
  have z1 := b1.size
  have D1 := Lib.hid b1
  have X1 := Lib.hid x1.rd
  clear b1 x1
  go_wp2_with fail
  refine (HS.out _ _ _ X1.out).mono ?_
  rintro e2 W2 ⟨S0, sd, gsS, rfl, b2, oS, pS⟩
  have z2 := b2.size
  have D2 := Lib.hid (D1.out.trans (b2.mono z1))
  have OS := Lib.hid oS
  have PS := Lib.hid pS
  clear b2 oS pS
  go_wp2_with fail
  refine (toInts_x A n c xs _ hn ((HA.out.below D2.out).mono (by omega))).mono ?_
  rintro e3 W3 ⟨B3, d3, rfl, b3, x3⟩
  have z3 := b3.size
  have D3 := Lib.hid (D2.out.trans (b3.mono (by omega)))
  have E3 := Lib.hid b3
  have X3 := Lib.hid x3
  clear b3 x3
  go_wp2_with fail
  refine (HI.out _ _ _ X3.out.rd).mono ?_
  rintro e4 W4 ⟨G0, gd, gsG, rfl, b4, oG, pG⟩
  have z4 := b4.size
  have D4 := Lib.hid (D3.out.trans (b4.mono (by omega)))
  have E4 := Lib.hid (E3.out.trans (b4.mono z3))
  have F4 := Lib.hid b4
  have OG := Lib.hid oG
  have PG := Lib.hid pG
  clear b4 oG pG
  go_wp2_with fail
  refine (eqSS_t G0 S0 m gd sd _ _ _ _ gsG gsS P _ (by omega) OG.out ((OS.out.below E4.out).mono (by omega)) PG.out (PS.out.belowS E4.out)).mono ?_
  rintro e5 W5 ⟨rfl, b5⟩
  have z5 := b5.size
  have D5 := Lib.hid (D4.out.trans (b5.mono (by omega)))
  have E5 := Lib.hid (E4.out.trans (b5.mono (by omega)))
  have F5 := Lib.hid (F4.out.trans (b5.mono z4))
  have G5 := Lib.hid b5
  clear b5
  go_wp2_with fail
  refine (toInts_x A n c xs _ hn ((HA.out.below D5.out).mono (by omega))).mono ?_
  rintro e6 W6 ⟨B6, d6, rfl, b6, x6⟩
  have z6 := b6.size
  have D6 := Lib.hid (D5.out.trans (b6.mono (by omega)))
  have E6 := Lib.hid (E5.out.trans (b6.mono (by omega)))
  have F6 := Lib.hid (F5.out.trans (b6.mono (by omega)))
  have G6 := Lib.hid (G5.out.trans (b6.mono z5))
  have X6 := Lib.hid x6.rd
  clear b6 x6
  go_wp2_with fail
  refine (eqInt64S_x B3 B6 n d3 d6 xs _ hn ((X3.out.below F6.out).rd) X6.out).mono ?_
  rintro e7 W7 ⟨rfl, b7⟩
  have z7 := b7.size
  have D7 := Lib.hid (D6.out.trans (b7.mono (by omega)))
  have E7 := Lib.hid (E6.out.trans (b7.mono (by omega)))
  have F7 := Lib.hid (F6.out.trans (b7.mono (by omega)))
  have G7 := Lib.hid (G6.out.trans (b7.mono (by omega)))
  clear b7 D1 D3 D4 D5 E3 E4 E5 F4 F5 G5 D6 E6 F6 G6 X6 X1
  go_wp2_with fail
  refine (markInt64S_x W2.heap.size W3.heap.size B3 n d3 xs 1 _ (by omega) (by omega) (by omega) hn (X3.out.below F7.out) X3.out.lt).mono ?_
  rintro e8 W8 ⟨rfl, c8, _⟩
  have z8 := c8.size
  have b8 : Below W2.heap.size W7 W8 := c8.below (Nat.le_refl _) (by omega)
  have D8 := Lib.hid (D7.out.trans (b8.mono (by omega)))
  have E8 := Lib.hid (E7.out.trans b8)
  have OG8 := Lib.hid (((OG.out.below G7.out).mono (by omega)).chg c8 (Nat.le_refl _) (Nat.le_refl _))
  have PG8 := Lib.hid ((PG.out.belowS G7.out).chg c8 (Nat.le_refl _))
  have k8 : ¬ (1 + (n : Int)) < 0 := by omega
  clear c8 b8 OG PG G7 F7 X3
  go_wp2_with fail
  refine (eqSS_t G0 S0 m gd sd _ _ _ _ gsG gsS P _ (by omega) (OG8.out.mono z8) ((OS.out.below E8.out).mono (by omega)) PG8.out (PS.out.belowS E8.out)).mono ?_
  rintro e9 W9 ⟨rfl, b9⟩
  have z9 := b9.size
  have D9 := Lib.hid (D8.out.trans (b9.mono (by omega)))
  have E9 := Lib.hid (E8.out.trans (b9.mono (by omega)))
  have OG9 := Lib.hid ((OG8.out.mono z8).below b9)
  have PG9 := Lib.hid (PG8.out.belowS b9)
  clear b9 OG8 PG8
  go_wp2_with fail
  refine (markSS_t G0 m gd W3.heap.size W8.heap.size _ gsG P 1 _ (by omega) (by omega) (by omega) (by omega) (by omega) OG9.out PG9.out).mono ?_
  rintro e10 W10 ⟨rfl, b10, oG10, pG10⟩
  have z10 := b10.size
  have D10 := Lib.hid (D9.out.trans (b10.mono (by omega)))
  have E10 := Lib.hid (E9.out.trans (b10.mono (by omega)))
  have OG10 := Lib.hid (oG10.mono (show W8.heap.size ≤ W10.heap.size by omega))
  have PG10 := Lib.hid pG10
  clear b10 oG10 pG10 OG9 PG9
  go_wp2_with fail
  refine (heldSS_t G0 m gd _ _ gsG 1 _ (by omega) (by omega) (by omega) OG10.out PG10.out).mono ?_
  rintro e11 W11 ⟨rfl, rfl⟩
  have q1 : ¬ (1 + 2 * (m : Int)) < 0 := by omega
  have q2 : ((1 + 2 * (m : Int)) != (1 + 2 * (m : Int))) = false := by simp
  go_wp2_with fail
  refine (toInts_x A n c xs _ hn ((HA.out.below D10.out).mono (by omega))).mono ?_
  rintro e12 W12 ⟨B12, d12, rfl, b12, x12⟩
  have z12 := b12.size
  have D12 := Lib.hid (D10.out.trans (b12.mono (by omega)))
  have E12 := Lib.hid (E10.out.trans (b12.mono (by omega)))
  have H12 := Lib.hid b12
  have X12 := Lib.hid x12.rd
  clear b12 x12
  go_wp2_with fail
  refine (HI.out _ _ _ X12.out).mono ?_
  rintro e13 W13 ⟨H0, hd, gsH, rfl, b13, oH, pH⟩
  have z13 := b13.size
  have D13 := Lib.hid (D12.out.trans (b13.mono (by omega)))
  have E13 := Lib.hid (E12.out.trans (b13.mono (by omega)))
  have H13 := Lib.hid (H12.out.trans (b13.mono z12))
  have OH := Lib.hid oH
  have PH := Lib.hid pH
  clear b13 oH pH
  go_wp2_with fail
  refine (eqSS_t H0 S0 m hd sd _ _ _ _ gsH gsS P _ (by omega) OH.out ((OS.out.below E13.out).mono (by omega)) PH.out (PS.out.belowS E13.out)).mono ?_
  rintro e14 W14 ⟨rfl, b14⟩
  have z14 := b14.size
  have D14 := Lib.hid (D13.out.trans (b14.mono (by omega)))
  have H14 := Lib.hid (H13.out.trans (b14.mono (by omega)))
  clear b14
  go_wp2_with fail
  refine (heldSS_t G0 m gd _ _ gsG 1 _ (by omega) (by omega) (by omega) ((OG10.out.below H14.out).mono (by omega)) (PG10.out.belowS H14.out)).mono ?_
  rintro e15 W15 ⟨rfl, rfl⟩
  go_wp2
  go_ret
  exact ⟨rfl, D14.out⟩

theorem walk_FnExactDrySpells (a0 : Option Addr) (la0 ca0 : Nat) (za0 : List Int) (a1 : Int) (w : World) (wa0 : IsRow .i64 w a0 la0 ca0 za0) (_w1 : (Lit.int .i64 a1).wf = true) :
    Calls Try.prog 13 #[.slice a0 la0 ca0, .int .i64 a1] w fun e w' => e = .returned (.bool true) ∧ Below w.heap.size w w' := by
  by_cases hn : la0 ≤ 1048576
  · exact law_FnExactDrySpells a0 la0 ca0 (za0.take la0) a1 w hn wa0.rd
  · have hm := wa0.len
    unfold maxLen at hm
    clear wa0
    go_enter Try.func13, Try.ntmps13
    go_wp2
    go_ret
    exact ⟨rfl, Below.refl _ _⟩

end Go.Proofs.Ytagnhlcgfcppjac
