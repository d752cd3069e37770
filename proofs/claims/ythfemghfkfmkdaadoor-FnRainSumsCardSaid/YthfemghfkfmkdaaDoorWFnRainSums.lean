/- The walk of the law on sums of rain. -/
import Derived.Test.YthfemghfkfmkdaaDoorWetP
import Derived.Test.YthfemghfkfmkdaaDoorA2
import Derived.Test.YthfemghfkfmkdaaDoorRainK
import Derived.Shelf.Vars
namespace Go.Proofs.YthfemghfkfmkdaaDoor
open Go.RowKit

theorem ml_of {w : World} (hsh : w.ShapedOpen Tryd.prog) : ∃ m, w.cell? ⟨0, 0, none⟩ = some (.int .i64 m) :=
  Go.Proofs.cell_of_shapedOpen_int (P := Tryd.prog) (g := 0) (t := 3) (zero := #[.int .i64 0]) hsh (of_decide_eq_true (by kernel_rfl)) (by kernel_rfl) rfl (by kernel_rfl) (by kernel_rfl) Tryd.underlying3

theorem a2Sum_e (A : Option Addr) (n c : Nat) (xs : List Int) (v : Int) (w : World) (hn : n ≤ 1000) (hv2 : v = sumN xs n) (ha : Rd w w.heap.size A n xs) (hv : ∀ j, j < n → -1000000000 ≤ xs.getD j 0 ∧ xs.getD j 0 ≤ 1000000000) :
    Calls Tryd.prog 9 #[.slice A n c] w fun e w' => e = .returned (.int .i64 v) ∧ w = w' := by
  rw [hv2]; exact a2Sum_t A n c xs w hn ha hv

set_option maxRecDepth 100000 in
set_option maxHeartbeats 6400000 in
theorem law_FnRainSums (A B : Option Addr) (n c m d : Nat) (w : World) (hA : ByR w A n) (hB : ByR w B m) (hn : n ≤ 3000) (hm : m ≤ 3000) (env : NumEnv w) (ml : Int) (hml : w.cell? ⟨0, 0, none⟩ = some (.int .i64 ml)) (hg : 0 < w.heap.size) :
    Calls Tryd.prog 3 #[.slice A n c, .slice B m d] w fun e w' => e = .returned (.bool true) ∧ Below w.heap.size w w' := by
  have HA := Lib.hid hA
  have HB := Lib.hid hB
  have HE := Lib.hid env
  have HM := Lib.hid hml
  have HG := Lib.hid hg
  clear hA hB env hml hg
  have hlo : decide (3000 < n ∨ 3000 < m) = false := decide_eq_false (by omega)
  go_enter Tryd.func3, Tryd.ntmps3
  go_wp2_with fail
  refine (a2Long_t A B n c m d _ (by unfold maxLen; omega) (by unfold maxLen; omega)).mono ?_
  rintro e0 w0 ⟨rfl, rfl⟩
  rw [hlo]
  go_wp2_with fail
  refine (a2Rain_t A n c _ HA.out (by omega)).mono ?_
  rintro e1 W1 ⟨R, rc, q, xs, rfl, b1, x1, r1, hqc⟩
  have HB1 := Lib.hid (HB.out.below b1)
  have D1 := Lib.hid b1
  have z1 := b1.size
  have RX1 := Lib.hid x1.rd
  have HR := Lib.hid r1
  have hq1 := r1.2.1
  have hq2 := r1.2.2
  clear b1 x1 r1
  obtain ⟨rb, ro, rfl, hrB, _⟩ := RX1.out.2 (by omega)
  go_wp2_with fail
  refine (a2At_t B m d 0 (q : Int) _ HB1.out hm (by omega) (by omega) (by omega)).mono ?_
  rintro e2 W2 ⟨l, rfl, l1, l2, rfl⟩
  obtain ⟨dd, hdd⟩ : ∃ dd : Nat, 1 + l = (dd : Int) := ⟨(1 + l).toNat, by omega⟩
  have hd1 : 1 ≤ dd := by omega
  have hd2 : dd ≤ q := by omega
  have hw1 := IntWalk.i64_in (1 + l) (by omega)
  have HDD := Lib.hid hdd
  clear hdd
  go_wp2_with fail
  rw [HDD.out]
  clear l1 l2 hw1
  refine (sums_impl rb ro q rc dd xs _ (by omega) hd1 hd2 hqc (rnd_ok HR.out) (by unfold rsP; omega) RX1.out).mono ?_
  rintro e3 W3 ⟨S, sc, rfl, b3, x3⟩
  have D3 := Lib.hid (D1.out.trans (b3.mono z1))
  have z3 := b3.size
  have RX3 := Lib.hid ((RX1.out.below b3).mono z3)
  have RS3 := Lib.hid x3.rd
  clear b3 x3
  go_wp2_with fail
  refine (wet_d rb ro q rc dd xs _ hd1 (by omega) hqc HR.out RX3.out).mono ?_
  rintro e4 W4 ⟨at4, mx4, z4', rfl, b4, f4, _⟩
  obtain ⟨rfl, rfl, rfl⟩ := f4 hd2
  have D4 := Lib.hid (D3.out.trans (b4.mono (by omega)))
  have z4 := b4.size
  have RX4 := Lib.hid ((RX3.out.below b4).mono z4)
  have RS4 := Lib.hid ((RS3.out.below b4).mono z4)
  clear b4 f4
  obtain ⟨k, hk⟩ : ∃ k, k = q - dd := ⟨_, rfl⟩
  have hkd : k + dd = q := by omega
  have HBA := Lib.hid (bst_all (rowOf (winS xs dd) (q - dd + 1)) (q - dd))
  have HL := Lib.hid (fun h => win_longer (d := dd) HR.out hd1 h)
  rw [← hk] at RS3 RS4 HBA HL ⊢
  have h1k : ((q : Int) - (dd : Int)) = (k : Int) := by omega
  have HROW := Lib.hid (fun j (hj : j < k + 1) => rowOf_at (winS xs dd) (k + 1) j hj)
  obtain ⟨T, hT⟩ : ∃ T, T = rowOf (winS xs dd) (k + 1) := ⟨_, rfl⟩
  rw [← hT] at RS3 RS4 HBA HL HROW ⊢
  have HTT := Lib.hid hT
  clear hT hk
  obtain ⟨p, hp⟩ : ∃ p, p = bstN T k := ⟨_, rfl⟩
  obtain ⟨M, hM⟩ : ∃ M, M = mxN T k := ⟨_, rfl⟩
  rw [← hp, ← hM] at HBA ⊢
  rw [← hM] at HL
  obtain ⟨p1, p2, p3, p4⟩ := HBA.out
  have HP3 := Lib.hid p3
  have HP4 := Lib.hid p4
  obtain ⟨sb, so, rfl, hsB, hsc⟩ := RS4.out.2 (by omega)
  have cp := hsc p (by omega)
  rw [p2] at cp
  have i1 : p < k + 1 := by omega
  have i2 : ((p : Int)) < ((k + 1 : Nat) : Int) := by omega
  have i3 : ¬ (p : Int) < 0 := by omega
  have i4 : (((k + 1 : Nat) : Int) != (k : Int) + 1) = false := by simp
  have i5 : (M != M) = false := by simp
  have HSC := Lib.hid hsc
  clear hsc p2 p3 p4 hp hM HBA RX1 RX3 RS3 HB1 HTT D1 D3
  clear HA HB
  go_wp2_with fail
  go_loopw [12] (fun i wr => ∃ j : Nat, j ≤ k + 1 ∧ i = .int .i64 (j : Int) ∧ Below W4.heap.size W4 wr) (fun i _ => k + 1 - (intOf i).toNat)
  case atStart => exact ⟨0, by omega, rfl, Below.refl _ _⟩
  case round =>
    obtain ⟨j, hj, rfl, hb⟩ := hrel
    have hz := hb.size
    by_cases hlt : j < k + 1
    · have c1 := (hb.cell (p := ⟨sb, so + j, none⟩) hsB).trans (HSC.out j hlt)
      have hv := HROW.out j hlt
      have h3 := HP3.out j
      have h4 := HP4.out j (by omega)
      obtain ⟨v, hvv⟩ : ∃ v, v = T.getD j 0 := ⟨_, rfl⟩
      rw [← hvv] at c1 hv h3 h4
      have HWN := Lib.hid (((RX4.out.below hb).mono hz).win (show j + dd ≤ q by omega))
      have HWB := Lib.hid (fun i (hi : i < dd) => show -1000000000 ≤ (winL xs dd j).getD i 0 ∧ (winL xs dd j).getD i 0 ≤ 1000000000 by have := win_bd (rnd_ok HR.out) (show j + dd ≤ q by omega) i hi; omega)
      have HVS := Lib.hid (show v = sumN (winL xs dd j) dd from hv)
      have x1 : (j : Int) + (dd : Int) ≤ (rc : Int) := by omega
      have x2 : j + dd ≤ rc := by omega
      have x3 : (j : Int) < ((k + 1 : Nat) : Int) := by omega
      have x4 : (v != v) = false := by simp
      have x5 := IntWalk.i64_in ((j : Int) + (dd : Int)) (by omega)
      have x10 : ¬ rc = j := by omega
      have x6 : (j : Int) ≤ (j : Int) + (dd : Int) := by omega
      have x7 : (0 : Int) ≤ (j : Int) := by omega
      have x8 : (0 : Int) ≤ (j : Int) + (dd : Int) := by omega
      have x9 : ((j : Int) + (dd : Int)).toNat = j + dd := by omega
      clear hvv hv
      by_cases hvm : v = M
      · have hpj : ¬ j < p := fun g => by have := h3 g; omega
        have y1 : ¬ (j : Int) < (p : Int) := by omega
        have y2 : ¬ M < v := by omega
        have y3 : (v == M) = true := by simp [hvm]
        clear h3 h4 hvm
        go_wp2
        go_quiet ((go_at_call 9; exact Calls.quiet_of_same ((a2Sum_e (some ⟨rb, ro + j, none⟩) dd (rc - j) (winL xs dd j) v _ (by omega) HVS.out (HWN.out.drewN _) HWB.out).mono fun _ _ h => ⟨h.1, h.2.symm⟩)))
        go_wp2
        go_roundw
        case rel => exact ⟨j + 1, by omega, by go_num, below_drewN hb _⟩
        case measure => simp [intOf]; omega
      · have y2 : ¬ M < v := by omega
        have y3 : (v == M) = false := by simp [hvm]
        clear h3 h4 hvm
        go_wp2
        go_quiet ((go_at_call 9; exact Calls.quiet_of_same ((a2Sum_e (some ⟨rb, ro + j, none⟩) dd (rc - j) (winL xs dd j) v _ (by omega) HVS.out (HWN.out.drewN _) HWB.out).mono fun _ _ h => ⟨h.1, h.2.symm⟩)))
        go_wp2
        go_roundw
        case rel => exact ⟨j + 1, by omega, by go_num, below_drewN hb _⟩
        case measure => simp [intOf]; omega
    · obtain rfl : j = k + 1 := by omega
      have x3 : ¬ ((k + 1 : Nat) : Int) < ((k + 1 : Nat) : Int) := by omega
      have D5 := Lib.hid (D4.out.trans (hb.mono (by omega)))
      have RX5 := Lib.hid ((RX4.out.below hb).mono hz)
      clear hb RS4 HSC HP3 HP4
      have e1 : ((dd : Int) + 1) = ((dd + 1 : Nat) : Int) := by omega
      have E1 := Lib.hid e1
      clear e1
      go_wp2_with fail
      rw [E1.out]
      refine (wet_d rb ro q rc (dd + 1) xs _ (by omega) (by omega) hqc HR.out RX5.out).mono ?_
      rintro e6 W6 ⟨at6, mx6, z6, rfl, b6, f6, g6⟩
      have D6 := Lib.hid (D5.out.trans (b6.mono (by omega)))
      have z7 := b6.size
      have RX6 := Lib.hid ((RX5.out.below b6).mono z7)
      clear b6
      have hx0 := HR.out.1 0 (by omega)
      obtain ⟨rb2, ro2, e, hrB2, hrc2⟩ := RX6.out.2 (by omega)
      injection e with e
      injection e with e2 e3
      subst e2
      subst e3
      have c0 : W6.cell? ⟨rb, ro, none⟩ = some (.int .i64 (xs.getD 0 0)) := hrc2 0 (by omega)
      obtain ⟨x, hx⟩ : ∃ x, x = xs.getD 0 0 := ⟨_, rfl⟩
      rw [← hx] at c0 hx0
      have hrn : isRn x := by unfold isRn; omega
      obtain ⟨res, hres⟩ := rn_res (rainT x)
      have hr : res = some x := (hres x).2 ⟨hrn, if_pos hrn⟩
      subst hr
      have HRES := Lib.hid hres
      have hsz : (rainT x).size ≤ 1048576 := by
        have e : rainT x = rainB x := if_pos hrn
        have l1 := dS_len (x.toNat / 10) (by omega)
        have l2 := dS_len (x.toNat % 10) (by omega)
        rw [e]
        unfold rainB
        simp only [ByteArray.size_append]
        have e1 : (⟨#[46]⟩ : ByteArray).size = 1 := rfl
        have e2 : (⟨#[109, 109]⟩ : ByteArray).size = 2 := rfl
        omega
      have HS := Lib.hid hsz
      have HP6 := Lib.hid (HE.out.below D6.out)
      have HM6 := Lib.hid ((D6.out.cell (p := ⟨0, 0, none⟩) HG.out).trans HM.out)
      have hG6 : 0 < W6.heap.size := Nat.lt_of_lt_of_le HG.out D6.out.size
      have HG6 := Lib.hid hG6
      have xx : (x == x) = true := by simp
      clear hrc2 hx hx0 hres hsz hG6 RX4 RX5 HROW
      by_cases hlong : dd + 1 ≤ q
      · obtain ⟨_, f2, f3⟩ := f6 hlong
        have hle := HL.out hlong
        rw [← f2] at hle
        subst f3
        have y1 : (dd : Int) < (q : Int) := by omega
        have y2 : ¬ mx6 < M := by omega
        clear f6 g6 f2 hle HL
        go_wp2_with fail
        refine (itext_any x _ HP6.out.pow).mono ?_
        rintro e7 W7 ⟨rfl, b7⟩
        go_wp2_with fail
        refine (rr_impl (rainT x) _ HS.out (HP6.out.below b7) ml ((b7.cell (p := ⟨0, 0, none⟩) HG6.out).trans HM6.out) (some x) HRES.out).mono ?_
        rintro e8 W8 ⟨rfl, b8⟩
        have c8 : W8.cell? ⟨rb, ro, none⟩ = some (.int .i64 x) := (b8.cell (p := ⟨rb, ro, none⟩) (Nat.lt_of_lt_of_le hrB2 b7.size)).trans ((b7.cell (p := ⟨rb, ro, none⟩) hrB2).trans c0)
        have D8 := Lib.hid (D6.out.trans ((b7.trans (b8.mono b7.size)).mono D6.out.size))
        clear b7 b8 c0
        go_wp2
        go_ret
        exact ⟨rfl, D8.out⟩
      · have f3 := g6 hlong
        subst f3
        have y1 : ¬ (dd : Int) < (q : Int) := by omega
        clear f6 g6 HL
        go_wp2_with fail
        refine (itext_any x _ HP6.out.pow).mono ?_
        rintro e7 W7 ⟨rfl, b7⟩
        go_wp2_with fail
        refine (rr_impl (rainT x) _ HS.out (HP6.out.below b7) ml ((b7.cell (p := ⟨0, 0, none⟩) HG6.out).trans HM6.out) (some x) HRES.out).mono ?_
        rintro e8 W8 ⟨rfl, b8⟩
        have c8 : W8.cell? ⟨rb, ro, none⟩ = some (.int .i64 x) := (b8.cell (p := ⟨rb, ro, none⟩) (Nat.lt_of_lt_of_le hrB2 b7.size)).trans ((b7.cell (p := ⟨rb, ro, none⟩) hrB2).trans c0)
        have D8 := Lib.hid (D6.out.trans ((b7.trans (b8.mono b7.size)).mono D6.out.size))
        clear b7 b8 c0
        go_wp2
        go_ret
        exact ⟨rfl, D8.out⟩

set_option maxHeartbeats 400000 in
theorem walk_FnRainSums (a0 : Option Addr) (la0 ca0 : Nat) (za0 : List Int) (a1 : Option Addr) (la1 ca1 : Nat) (za1 : List Int) (w : World) (wa0 : IsRow .u8 w a0 la0 ca0 za0) (wa1 : IsRow .u8 w a1 la1 ca1 za1) (hL : laidMetH Tryd.prog Rows.fnRainSumsRow.laid w) (hml : ∃ m, w.cell? ⟨0, 0, none⟩ = some (.int .i64 m)) :
    Calls Tryd.prog 3 #[.slice a0 la0 ca0, .slice a1 la1 ca1] w fun e w' => e = .returned (.bool true) ∧ Below w.heap.size w w' := by
  rw [MakeChecks.laidMetH_plain _ _ _ (by kernel_rfl)] at hL
  have env : NumEnv w := ⟨pow_of_laid hL (.tail _ (.tail _ (.head _))),
    err_of_laid hL (.tail _ (.tail _ (.tail _ (.tail _ (.head _))))) (by kernel_rfl) (t := 66) (by kernel_rfl) Tryd.underlying66 ⟨_, _, rfl⟩,
    err_of_laid hL (.tail _ (.tail _ (.tail _ (.head _)))) (by kernel_rfl) (t := 66) (by kernel_rfl) Tryd.underlying66 ⟨_, _, rfl⟩⟩
  obtain ⟨ml, hm⟩ := hml
  by_cases hn : la0 ≤ 3000 ∧ la1 ≤ 3000
  · exact law_FnRainSums a0 a1 la0 ca0 la1 ca1 w wa0.by wa1.by hn.1 hn.2 env ml hm (World.block_lt_of_cell? _ _ hm)
  · have hm0 := wa0.len
    have hm1 := wa1.len
    have hlo : decide (3000 < la0 ∨ 3000 < la1) = true := decide_eq_true (by omega)
    clear wa0 wa1 hn env hL hm
    go_enter Tryd.func3, Tryd.ntmps3
    go_wp2_with (go_at_call 4; refine (a2Long_t a0 a1 la0 ca0 la1 ca1 _ hm0 hm1).mono ?_; rintro e0 w0 ⟨rfl, rfl⟩; rw [hlo])
    go_ret
    exact ⟨rfl, Below.refl _ _⟩

end Go.Proofs.YthfemghfkfmkdaaDoor
