/- The walk of the law on words. -/
import Derived.Test.YtohfboelgocpdaaDoorDrawW
import Derived.Test.YtohfboelgocpdaaDoorCodeN
import Derived.Test.YtohfboelgocpdaaDoorWords
import Derived.Test.YtohfboelgocpdaaDoorWFnExactIsName
import Derived.Test.YtohfboelgocpdaaDoorWFnExactReadDecimal
namespace Go.Proofs.YtohfboelgocpdaaDoor
open Go.RowKit

theorem IsRow.by {w : World} {a : Option Addr} {len cap : Nat} {zs : List Int} (h : IsRow .u8 w a len cap zs) : ByR w a len := by
  rcases h with ⟨rfl, rfl, rfl, rfl⟩ | ⟨x, rfl, hl, hm, hz, hc, hw⟩
  · exact fun h => absurd h (by omega)
  · intro hn
    have c0 := hc 0 (by omega)
    obtain ⟨b, off, spot⟩ := x
    have hspot : spot = none := by simpa [Addr.add] using World.cell?_spot c0
    subst hspot
    have hb := World.block_lt_of_cell? _ _ c0
    refine ⟨b, off, rfl, by simpa [Addr.add] using hb, fun j hj => ?_⟩
    have cj := hc j (by omega)
    rw [addr_add] at cj
    have hz2 : zs.getD j 0 ∈ zs := by
      rw [List.getD_eq_getElem?_getD, List.getElem?_eq_getElem (show j < zs.length by omega)]
      exact List.getElem_mem _
    generalize zs.getD j 0 = x at cj hz2
    have hx := hw x hz2
    simp [Lit.wf, IntKind.min, IntKind.max, IntKind.signed, IntKind.bits] at hx
    exact ⟨x, cj, by omega, by omega⟩

set_option maxHeartbeats 400000 in
theorem big_f (A : Option Addr) (n c : Nat) (w : World) (h : n ≤ 4096) : Calls Tryd.prog 4 #[.slice A n c] w fun e w' => e = .returned (.bool false) ∧ w = w' := by
  have h1 : (n : Int) ≤ 4096 := by omega
  go_enter Tryd.func4, Tryd.ntmps4
  go_wp2
  go_ret
  exact ⟨ret_bool (by first | (simp; done) | (simp; omega)), rfl⟩
set_option maxHeartbeats 400000 in
theorem big_t (A : Option Addr) (n c : Nat) (w : World) (h : ¬ n ≤ 4096) : Calls Tryd.prog 4 #[.slice A n c] w fun e w' => e = .returned (.bool true) ∧ w = w' := by
  have h1 : (4096 : Int) < (n : Int) := by omega
  go_enter Tryd.func4, Tryd.ntmps4
  go_wp2
  go_ret
  exact ⟨ret_bool (by first | (simp; done) | (simp; omega)), rfl⟩


theorem ne_size {y : ByteArray} (h : y ≠ ⟨#[]⟩) : 0 < y.size := by
  rcases Nat.eq_zero_or_pos y.size with hz | hz
  · exfalso
    apply h
    apply bytes_ext
    have : y.data.toList.length = 0 := by simpa using hz
    simpa using List.length_eq_zero_iff.1 this
  · exact hz
set_option maxHeartbeats 400000 in
theorem rd_spec (s : ByteArray) (w : World) (hs : s.size ≤ 1048576) (res : Option Int) (hres : ∀ n, res = some n ↔ DecOf s.data.toList n) :
    Calls Tryd.prog 9 #[.string s] w fun e w' => e = .returned (.tuple #[.int .i64 (res.getD 0), .bool res.isSome]) ∧ Below w.heap.size w w' := by
  have HR := Lib.hid hres
  clear hres
  go_enter Tryd.func9, Tryd.ntmps9
  go_wp2_with fail
  refine (num_spec s _ hs res HR.out).mono ?_
  rintro e1 w1 ⟨rfl, b1⟩
  go_wp2
  go_ret2
  exact ⟨rfl, b1⟩
set_option maxHeartbeats 400000 in
theorem decm_spec (n : Int) (w : World) (hn : I64 n) :
    Calls Tryd.prog 14 #[.int .i64 n] w fun e w' => e = .returned (.string ⟨(Lib.itoa n).toArray⟩) ∧ Below w.heap.size w w' := by
  have HN := Lib.hid hn
  clear hn
  go_enter Tryd.func14, Tryd.ntmps14
  go_wp2_with fail
  refine (dec_spec n _ HN.out).mono ?_
  rintro e1 w1 ⟨rfl, b1⟩
  go_wp2
  go_ret
  exact ⟨rfl, b1⟩
/-- a decimal that is read is the number's own; one that is not has 19 signs at least -/
theorem back_fact {n : Int} {res : Option Int} (h : ∀ m, res = some m ↔ DecOf (Lib.itoa n) m) : (res.isSome = true → res.getD 0 = n) ∧ (res.isSome = false → 19 ≤ (Lib.itoa n).length) := by
  cases hr : res with
  | some m =>
    refine ⟨fun _ => ?_, fun e => (by cases e)⟩
    have hd := (h m).1 hr
    have hn : DecOf (Lib.itoa n) n := ⟨rfl, hd.2⟩
    exact hd.inj hn
  | none =>
    refine ⟨fun e => (by cases e), fun _ => ?_⟩
    have hno : ¬ DecOf (Lib.itoa n) n := fun hd => by
      have := (h n).2 hd
      rw [hr] at this
      cases this
    have hl : ¬ (strip (Lib.itoa n)).length ≤ 18 := fun hl => hno ⟨rfl, hl⟩
    have h1 : (strip (Lib.itoa n)).length ≤ (Lib.itoa n).length := by
      unfold strip Lib.trimPrefix
      split
      · rw [List.length_drop]; omega
      · exact Nat.le_refl _
    omega

set_option maxRecDepth 100000 in
set_option maxHeartbeats 12800000 in
theorem law_FnWords (A : Option Addr) (n c : Nat) (w : World) (h : ByR w A n) (hn : n ≤ 4096) (env : NumEnv w) (ct : CodeTab w) :
    Calls Tryd.prog 3 #[.slice A n c] w fun e w' => e = .returned (.bool true) ∧ Below w.heap.size w w' := by
  have HE := Lib.hid env
  have HC := Lib.hid ct
  have HY := Lib.hid h
  clear h env ct
  go_enter Tryd.func3, Tryd.ntmps3
  go_wp2_with (go_at_call 4; refine (big_f _ _ _ _ hn).mono ?_; rintro e w' ⟨rfl, rfl⟩)
  refine (drawDecimal_t A n c _ HY.out (by omega)).mono ?_
  rintro e1 W1 ⟨n0, rfl, hn0, b1⟩
  have HN := Lib.hid hn0
  have D1 := Lib.hid b1
  go_wp2_with fail
  refine (dec_impl n0 _ HN.out (HE.out.below D1.out).pow).mono ?_
  rintro e2 W2 ⟨rfl, b2⟩
  have D2 := Lib.hid (b1.trans (b2.mono b1.size))
  obtain ⟨res, hres⟩ := dec_res (Lib.itoa n0)
  have HB := Lib.hid (back_fact hres)
  obtain ⟨T, hT⟩ : ∃ T : ByteArray, T = ⟨(Lib.itoa n0).toArray⟩ := ⟨_, rfl⟩
  have hTs : T.size ≤ 1000 := by rw [hT]; exact itoa_sz hn0
  have HT := Lib.hid hT
  have HR := Lib.hid (show ∀ m, res = some m ↔ DecOf T.data.toList m by rw [hT]; exact hres)
  have HTL := Lib.hid (show T.size = (Lib.itoa n0).length by rw [hT]; rfl)
  rw [← hT]
  clear hT hres b1 b2 hn0
  go_wp2_with fail
  refine (num_impl T _ (by omega) (HE.out.below D2.out) res HR.out).mono ?_
  rintro e3 W3 ⟨rfl, b3⟩
  have D3 := Lib.hid (D2.out.trans (b3.mono D2.out.size))
  obtain ⟨gd, hgd⟩ : ∃ x, x = res.getD 0 := ⟨_, rfl⟩
  obtain ⟨is, his⟩ : ∃ x, x = res.isSome := ⟨_, rfl⟩
  have HG := Lib.hid (show (is = true → gd = n0) ∧ (is = false → 19 ≤ T.size) by rw [hgd, his, HTL.out]; exact HB.out)
  rw [← hgd, ← his]
  clear hgd his b3
  go_wp2_with fail
  refine (drawReadDecimal_t A n c _ (HY.out.below D3.out) (by omega)).mono ?_
  rintro e4 W4 ⟨s, rfl, hs, b4⟩
  have D4 := Lib.hid (D3.out.trans (b4.mono D3.out.size))
  obtain ⟨res2, hres2⟩ := dec_res s.data.toList
  have HR2 := Lib.hid hres2
  clear hres2 b4
  go_wp2_with fail
  refine (num_impl s _ (by omega) (HE.out.below D4.out) res2 HR2.out).mono ?_
  rintro e5 W5 ⟨rfl, b5⟩
  have D5 := Lib.hid (D4.out.trans (b5.mono D4.out.size))
  obtain ⟨g2, hg2⟩ : ∃ x, x = res2.getD 0 := ⟨_, rfl⟩
  obtain ⟨i2, hi2⟩ : ∃ x, x = res2.isSome := ⟨_, rfl⟩
  have HG2 := Lib.hid hg2
  have HI2 := Lib.hid hi2
  rw [← hg2, ← hi2]
  clear hg2 hi2 b5
  go_wp2_with fail
  refine (rd_spec s _ (by omega) res2 HR2.out).mono ?_
  rintro e6 W6 ⟨rfl, b6⟩
  rw [← HG2.out, ← HI2.out]
  have D6 := Lib.hid (D5.out.trans (b6.mono D5.out.size))
  clear b6
  go_wp2_with fail
  refine (drawSplitWords_t A n c _ (HY.out.below D6.out) (by omega)).mono ?_
  rintro e7 W7 ⟨ws, rfl, hws, b7⟩
  have D7 := Lib.hid (D6.out.trans (b7.mono D6.out.size))
  clear b7
  obtain ⟨G, hG⟩ : ∃ G, G = wordsOf ws := ⟨_, rfl⟩
  have HW := Lib.hid hG
  have HNO := Lib.hid (show ∀ y, y ∈ G → (y ≠ ⟨#[]⟩ ∧ ∀ j (h : j < y.size), y[j].toNat ≠ 32) ∧ y.size ≤ ws.size by rw [hG]; exact fun y hy => ⟨words_no ws y hy, words_sz ws y hy⟩)
  obtain ⟨N, hN⟩ : ∃ N, N = G.length := ⟨_, rfl⟩
  have hN9 : N ≤ 2001 := by have := wordsOf_len ws; rw [hN, hG]; omega
  have HNN := Lib.hid hN
  clear hG hN
  go_wp2_with fail
  refine (implC_SplitWords ws _ (by omega)).mono ?_
  rintro e8 W8 ⟨Ag, cg, rfl, b8, hw8⟩
  rw [← HW.out] at hw8 ⊢
  rw [← HNN.out] at hw8 ⊢
  have R8 := Lib.hid hw8.rd
  have D8 := Lib.hid (D7.out.trans (b8.mono D7.out.size))
  clear hw8 b8
  go_wp2_with fail
  refine (drawIsName_t A n c _ (HY.out.below D8.out) (by omega)).mono ?_
  rintro e9 W9 ⟨nm, rfl, hnm, b9⟩
  have D9 := Lib.hid (D8.out.trans (b9.mono D8.out.size))
  have R9 := Lib.hid (R8.out.below b9)
  have z9 := b9.size
  clear b9
  obtain ⟨bn, hbn⟩ : ∃ b : Bool, b = true ↔ IsNm nm := by
    by_cases hq : IsNm nm
    · exact ⟨true, fun _ => hq, fun _ => rfl⟩
    · exact ⟨false, fun e => (by cases e), fun e => absurd e hq⟩
  have HBN := Lib.hid hbn
  clear hbn
  go_wp2_with fail
  refine (drawCodeName_t A n c _ (HY.out.below D9.out) (by omega)).mono ?_
  rintro e10 W10 ⟨k, rfl, hk, b10⟩
  have D10 := Lib.hid (D9.out.trans (b10.mono D9.out.size))
  have R10 := Lib.hid (R9.out.below (b10.mono z9))
  have z10 := b10.size
  clear b10
  go_wp2_with fail
  refine (decm_spec n0 _ HN.out).mono ?_
  rintro e11 W11 ⟨rfl, b11⟩
  rw [← HT.out]
  have D11 := Lib.hid (D10.out.trans (b11.mono D10.out.size))
  have R11 := Lib.hid (R10.out.below (b11.mono (by omega)))
  have z11 := b11.size
  clear b11
  go_wp2_with fail
  refine (specC_SplitWords ws _ (by omega)).mono ?_
  rintro e12 W12 ⟨As, cs, rfl, b12, hw12⟩
  rw [← HW.out] at hw12 ⊢
  rw [← HNN.out] at hw12 ⊢
  have Q12 := Lib.hid hw12.rd
  have D12 := Lib.hid (D11.out.trans (b12.mono D11.out.size))
  have R12 := Lib.hid (R11.out.below (b12.mono (by omega)))
  have z12 := b12.size
  clear hw12 b12
  go_wp2_with fail
  refine (f6t_t Ag N cg As cs G _ (by omega) (R12.out.mono (by omega)) Q12.out).mono ?_
  rintro e13 W13 ⟨rfl, b13⟩
  have D13 := Lib.hid (D12.out.trans (b13.mono D12.out.size))
  have R13 := Lib.hid (R12.out.below (b13.mono (by omega)))
  have z13 := b13.size
  clear b13
  go_wp2_with fail
  refine (impl_name bn nm _ (by omega) HBN.out).mono ?_
  rintro e14 W14 ⟨rfl, b14⟩
  have D14 := Lib.hid (D13.out.trans (b14.mono D13.out.size))
  have R14 := Lib.hid (R13.out.below (b14.mono (by omega)))
  have z14 := b14.size
  clear b14
  go_wp2_with fail
  refine (spec_name bn nm _ (by omega) HBN.out).mono ?_
  rintro e15 W15 ⟨rfl, rfl⟩
  go_wp2_with fail
  refine (code_impl k _ hk (HC.out.below D14.out)).mono ?_
  rintro e16 W16 ⟨rfl, b16⟩
  have D16 := Lib.hid (D14.out.trans (b16.mono D14.out.size))
  have R16 := Lib.hid (R14.out.below (b16.mono (by omega)))
  have z16 := b16.size
  clear b16
  go_wp2_with fail
  refine (code_spec k _ hk).mono ?_
  rintro e17 W17 ⟨rfl, b17⟩
  have D17 := Lib.hid (D16.out.trans (b17.mono D16.out.size))
  have R17 := Lib.hid (R16.out.below (b17.mono (by omega)))
  have z17 := b17.size
  clear b17
  generalize cnm k = CN
  have z8 : W8.heap.size ≤ W17.heap.size := by omega
  clear z9 z10 z11 z12 z13 z14 z16 z17 HE HC HY HN HB HT HR HTL HR2 HG2 HI2 HW HBN R8 R9 R10 R11 R12 R13 R14 R16 Q12 D1 D2 D3 D4 D5 D6 D7 D8 D9 D10 D11 D12 D13 D14 D16 hs hnm hk hn
  cases is
  all_goals (
    have hgd := HG.out
    simp only [Bool.false_eq_true, Bool.true_eq_false, false_implies, true_implies, true_and, and_true, reduceCtorEq, forall_const] at hgd
    go_wp2
    go_loopw [16] (fun ii wr => ∃ i : Nat, ii = .int .i64 (i : Int) ∧ i ≤ N ∧ Hid (Below w.heap.size w wr) ∧ Hid (RdS wr W8.heap.size Ag N G)) (fun ii _ => N - (intOf ii).toNat)
    case atStart => exact ⟨0, rfl, by omega, D17, R17⟩
    case round =>
      obtain ⟨i, rfl, hi, HB1, HR1⟩ := hrel
      by_cases hlt : i < N
      · have hlt2 : (i : Int) < (N : Int) := by omega
        obtain ⟨bb, oo, rfl, hbb, hc⟩ := HR1.out.2 (by omega)
        have c1 := hc i hlt
        have hy := HNO.out (G.getD i ⟨#[]⟩) (by
          have := HNN.out
          rw [List.getD_eq_getElem?_getD, List.getElem?_eq_getElem (show i < G.length by omega)]
          exact List.getElem_mem _)
        generalize G.getD i ⟨#[]⟩ = y at c1 hy
        have he : y.toList.isEmpty = false := isEmpty_f y (ne_size hy.1.1)
        have HY2 := Lib.hid hy.1.2
        have hys : y.size ≤ 2000 := Nat.le_trans hy.2 hws
        clear hc hy
        go_wp2
        go_loopw [17] (fun jj wr2 => ∃ j : Nat, jj = .int .i64 (j : Int) ∧ j ≤ y.size ∧ wr2.cell? ⟨bb, oo + i, none⟩ = some (.string y) ∧ Hid (Below w.heap.size w wr2) ∧ Hid (RdS wr2 W8.heap.size (some ⟨bb, oo, none⟩) N G)) (fun jj _ => y.size - (intOf jj).toNat)
        case atStart => exact ⟨0, rfl, by omega, c1, HB1, HR1⟩
        case round =>
          obtain ⟨j, rfl, hj, c2, HB2, HRR⟩ := hrel
          by_cases hjl : j < y.size
          · have hjl2 : (j : Int) < (y.size : Int) := by omega
            have hbt : ((y[j].toNat : Int) == 32) = false := by have := HY2.out j hjl; simp; omega
            go_wp2
            exact ⟨⟨j + 1, by rw [show ((j + 1 : Nat) : Int) = (j : Int) + 1 by omega], by omega, c2, HB2, HRR⟩, by simp [intOf]; omega⟩
          · obtain rfl : j = y.size := by omega
            go_wp2
            exact ⟨⟨i + 1, by rw [show ((i + 1 : Nat) : Int) = (i : Int) + 1 by omega], by omega, HB2, HRR⟩, by simp [intOf]; omega⟩
      · obtain rfl : i = N := by omega
        go_wp2
        go_ret
        exact ⟨rfl, HB1.out⟩)

set_option maxRecDepth 100000 in
set_option maxHeartbeats 1000000 in
theorem walk_FnWords (a0 : Option Addr) (la0 ca0 : Nat) (za0 : List Int) (w : World) (wa0 : IsRow .u8 w a0 la0 ca0 za0) (hL : laidMetH Tryd.prog Rows.fnWordsRow.laid w) :
    Calls Tryd.prog 3 #[.slice a0 la0 ca0] w fun e w' => e = .returned (.bool true) ∧ Below w.heap.size w w' := by
  rw [MakeChecks.laidMetH_plain _ _ _ (by kernel_rfl)] at hL
  have env : NumEnv w := ⟨pow_of_laid hL (.tail _ (.tail _ (.head _))),
    err_of_laid hL (.tail _ (.tail _ (.tail _ (.tail _ (.head _))))) (by kernel_rfl) (t := 39) (by kernel_rfl) Tryd.underlying39 ⟨_, _, rfl⟩,
    err_of_laid hL (.tail _ (.tail _ (.tail _ (.head _)))) (by kernel_rfl) (t := 39) (by kernel_rfl) Tryd.underlying39 ⟨_, _, rfl⟩⟩
  have ct := codeTab_of_laid hL (.tail _ (.tail _ (.tail _ (.tail _ (.tail _ (.head _))))))
  by_cases hn : la0 ≤ 4096
  case neg =>
    clear env ct hL
    go_enter Tryd.func3, Tryd.ntmps3
    go_wp2_with (go_at_call 4; refine (big_t _ _ _ _ hn).mono ?_; rintro e w' ⟨rfl, rfl⟩)
    go_ret
    exact ⟨rfl, Below.refl _ _⟩
  exact law_FnWords a0 la0 ca0 w wa0.by hn env ct

end Go.Proofs.YtohfboelgocpdaaDoor
