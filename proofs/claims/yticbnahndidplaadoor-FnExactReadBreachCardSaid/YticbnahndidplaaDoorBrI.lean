/- ReadBreach of the program. -/
import Derived.Test.YticbnahndidplaaDoorBrS
import Derived.Test.YticbnahndidplaaDoorBTx
import Derived.Test.YticbnahndidplaaDoorNumI
import Derived.Test.YticbnahndidplaaDoorCBreachText
import Derived.Test.YticbnahndidplaaDoorWFnExactReadDecimal
import Derived.Test.YticbnahndidplaaDoorRNum
namespace Go.Proofs.YticbnahndidplaaDoor
open Go.RowKit

theorem btT_list (a b c : Int) : (btT a b c).data.toList = brL a b c := by
  unfold btT brL mD
  simp [ByteArray.data_append, Array.toList_append]
theorem bt_any (a b c : Int) (w : World) (hpow : PowTab w) :
    Calls Tryd.prog 57 #[.agg #[.int .i64 a, .int .i64 b, .int .i64 c]] w fun e w' => e = .returned (.string (r0_BreachText a b c)) ∧ Below w.heap.size w w' := by
  by_cases h : tlOk a b c
  · rw [show r0_BreachText a b c = btT a b c from if_pos h]
    exact btimpl a b c w hpow h _ rfl
  · rw [show r0_BreachText a b c = ⟨#[]⟩ from if_neg h]
    have HV := Lib.hid (show false = decide (tlOk a b c) from (decide_eq_false h).symm)
    clear h
    go_enter Tryd.func57, Tryd.ntmps57
    go_wp2_with (go_at_call 82; refine (tlI_any _ _ _ _ _ HV.out).mono ?_; rintro e0 W0 ⟨rfl, b0⟩)
    go_ret
    exact ⟨rfl, (by repeat (first | assumption | exact Below.refl _ _ | (refine Below.trans ?_ (b0.mono (by first | omega | (simp; done) | (simp; omega)))) | (refine Below.setCell ?_ (by first | omega | (simp; done) | (simp; omega)) _) | apply below_drewN | apply Below.drew | (refine Below.alloc ?_ (by first | omega | (simp; done) | (simp; omega)) _)))⟩
/-- a number read by the program: its value, and that it is what is written where anything is -/
theorem num6 (s : ByteArray) (hs : s.size ≤ 1048576) : ∃ (v : Int) (b : Bool), (∀ W : World, NumEnv W → Calls Tryd.prog 79 #[.string s] W fun e w' => e = .returned (.tuple #[.int .i64 v, .bool b]) ∧ Below W.heap.size W w') ∧ (∀ n, DecOf s.data.toList n → v = n) ∧ (s.data.toList = [] → v = 0) := by
  obtain ⟨r, hr⟩ := dec_res s.data.toList
  refine ⟨r.getD 0, r.isSome, fun W hW => num_impl s W hs hW r hr, fun n hn => ?_, fun h => ?_⟩
  · have := (hr n).2 hn
    subst this
    rfl
  · cases hrr : r with
    | none => rfl
    | some n => exact absurd (by rw [← h]; exact (hr n).1 hrr) (dec_nil n)

set_option maxHeartbeats 800000 in
/-- readPair at one text and one mark -/
theorem pairM_t (M BD A B : ByteArray) (va vb : Int) (ba bb cu : Bool) (w : World)
    (hc : Calls Tryd.prog 56 #[.string BD, .string M] w fun e w' => e = .returned (.tuple #[.string A, .string B, .bool cu]) ∧ ∃ n, w' = w.drewN n)
    (na : ∀ W : World, NumEnv W → Calls Tryd.prog 79 #[.string A] W fun e w' => e = .returned (.tuple #[.int .i64 va, .bool ba]) ∧ Below W.heap.size W w')
    (nb : ∀ W : World, NumEnv W → Calls Tryd.prog 79 #[.string B] W fun e w' => e = .returned (.tuple #[.int .i64 vb, .bool bb]) ∧ Below W.heap.size W w') (env : NumEnv w) :
    Calls Tryd.prog 37 #[.string BD, .string M] w fun e w' => e = .returned (.tuple #[.int .i64 va, .int .i64 vb]) ∧ Below w.heap.size w w' := by
  have HE := Lib.hid env
  have HC := Lib.hid hc
  have NA := Lib.hid (rnum_all na)
  have NB := Lib.hid (rnum_all nb)
  clear env hc na nb
  go_enter Tryd.func37, Tryd.ntmps37
  go_wp2_with fail
  refine HC.out.mono ?_
  rintro q1 w1 ⟨rfl, nd, rfl⟩
  go_wp2_with fail
  refine (NA.out _ (HE.out.below (by repeat (first | assumption | exact Below.refl _ _ | (refine Below.setCell ?_ (by first | omega | (simp; done) | (simp; omega)) _) | apply below_drewN | apply Below.drew | (refine Below.alloc ?_ (by first | omega | (simp; done) | (simp; omega)) _))))).mono ?_
  rintro q2 w2 ⟨rfl, b2⟩
  have d2 : Below w.heap.size w w2 := (by repeat (first | assumption | exact Below.refl _ _ | (refine Below.trans ?_ (b2.mono (by first | omega | (simp; done) | (simp; omega)))) | (refine Below.setCell ?_ (by first | omega | (simp; done) | (simp; omega)) _) | apply below_drewN | apply Below.drew | (refine Below.alloc ?_ (by first | omega | (simp; done) | (simp; omega)) _)))
  go_wp2_with fail
  refine (NB.out _ (HE.out.below d2)).mono ?_
  rintro q3 w3 ⟨rfl, b3⟩
  go_wp2
  go_ret2
  exact ⟨rfl, d2.trans (b3.mono d2.size)⟩

set_option maxRecDepth 100000 in
set_option maxHeartbeats 3200000 in
theorem rb_impl (s : ByteArray) (w : World) (hs : s.size ≤ 1048576) (env : NumEnv w) (ml : Int) (hml : w.cell? ⟨0, 0, none⟩ = some (.int .i64 ml)) (res : Option (Int × Int × Int)) (hres : ∀ a b c, res = some (a, b, c) ↔ tlOk a b c ∧ s.data.toList = brL a b c) :
    Calls Tryd.prog 25 #[.string s] w fun e w' => e = .returned (.tuple #[.agg #[.int .i64 (res.getD (0, 0, 0)).1, .int .i64 (res.getD (0, 0, 0)).2.1, .int .i64 (res.getD (0, 0, 0)).2.2], .bool res.isSome]) ∧ Below w.heap.size w w' := by
  have hg : 0 < w.heap.size := World.block_lt_of_cell? _ _ hml
  have HE := Lib.hid env
  have HM := Lib.hid hml
  have HG := Lib.hid hg
  obtain ⟨A, hA⟩ : ∃ A : ByteArray, A = ⟨(Lib.cut s.data.toList (ByteArray.mk #[109, 32, 115, 105, 108, 108, 32]).data.toList).1.toArray⟩ := ⟨_, rfl⟩
  obtain ⟨R, hR⟩ : ∃ A : ByteArray, A = ⟨(Lib.cut s.data.toList (ByteArray.mk #[109, 32, 115, 105, 108, 108, 32]).data.toList).2.1.toArray⟩ := ⟨_, rfl⟩
  obtain ⟨cu, hcu⟩ : ∃ A : Bool, A = (Lib.cut s.data.toList (ByteArray.mk #[109, 32, 115, 105, 108, 108, 32]).data.toList).2.2 := ⟨_, rfl⟩
  obtain ⟨B, hB⟩ : ∃ A : ByteArray, A = ⟨(Lib.cut R.data.toList (ByteArray.mk #[32, 119, 97, 116, 101, 114, 32]).data.toList).1.toArray⟩ := ⟨_, rfl⟩
  obtain ⟨C, hC⟩ : ∃ A : ByteArray, A = ⟨(Lib.cut R.data.toList (ByteArray.mk #[32, 119, 97, 116, 101, 114, 32]).data.toList).2.1.toArray⟩ := ⟨_, rfl⟩
  obtain ⟨cv, hcv⟩ : ∃ A : Bool, A = (Lib.cut R.data.toList (ByteArray.mk #[32, 119, 97, 116, 101, 114, 32]).data.toList).2.2 := ⟨_, rfl⟩
  have lA : A.data.toList = (Lib.cut s.data.toList [109, 32, 115, 105, 108, 108, 32]).1 := by rw [hA]
  have lR : R.data.toList = (Lib.cut s.data.toList [109, 32, 115, 105, 108, 108, 32]).2.1 := by rw [hR]
  have lB : B.data.toList = (Lib.cut R.data.toList [32, 119, 97, 116, 101, 114, 32]).1 := by rw [hB]
  have lC : C.data.toList = (Lib.cut R.data.toList [32, 119, 97, 116, 101, 114, 32]).2.1 := by rw [hC]
  have hsl : s.data.toList.length = s.size := rfl
  have hAl : A.data.toList.length = A.size := rfl
  have hRl : R.data.toList.length = R.size := rfl
  have hBl : B.data.toList.length = B.size := rfl
  have hCl : C.data.toList.length = C.size := rfl
  have k1 := cut_len s.data.toList [109, 32, 115, 105, 108, 108, 32]
  have k2 := cut_len R.data.toList [32, 119, 97, 116, 101, 114, 32]
  rw [← lA, ← lR] at k1
  rw [← lB, ← lC] at k2
  have zA : A.size ≤ 1048576 := by omega
  have zR : R.size ≤ 1048576 := by omega
  have zB : B.size ≤ 1048576 := by omega
  have zC : C.size ≤ 1048576 := by omega
  have C1 := Lib.hid (show ∀ W : World, W.cell? ⟨0, 0, none⟩ = some (.int .i64 ml) → Calls Tryd.prog 56 #[.string s, .string ⟨#[109, 32, 115, 105, 108, 108, 32]⟩] W fun e w' => e = .returned (.tuple #[.string A, .string R, .bool cu]) ∧ ∃ n, w' = W.drewN n from fun W hW => by
    rw [hA, hR, hcu]
    exact Tryd.strings_Cut s ⟨#[109, 32, 115, 105, 108, 108, 32]⟩ ml W (by omega) hW)
  have C2 := Lib.hid (show ∀ W : World, W.cell? ⟨0, 0, none⟩ = some (.int .i64 ml) → Calls Tryd.prog 56 #[.string R, .string ⟨#[32, 119, 97, 116, 101, 114, 32]⟩] W fun e w' => e = .returned (.tuple #[.string B, .string C, .bool cv]) ∧ ∃ n, w' = W.drewN n from fun W hW => by
    rw [hB, hC, hcv]
    exact Tryd.strings_Cut R ⟨#[32, 119, 97, 116, 101, 114, 32]⟩ ml W (by omega) hW)
  clear hA hR hB hC hcu hcv
  obtain ⟨va, ba, na, na1, na0⟩ := num6 A zA
  obtain ⟨vb, bb, nb, nb1, nb0⟩ := num6 B zB
  obtain ⟨vc, bc, nc, nc1, nc0⟩ := num6 C zC
  have NA := Lib.hid na
  have NB := Lib.hid nb
  have NC := Lib.hid nc
  have val : ∀ a b c, tlOk a b c → s.data.toList = brL a b c → va = a ∧ vb = b ∧ vc = c := fun a b c h e => by
    have e1 := br_cut a b c
    rw [← e] at e1
    rw [e1] at lA lR
    have e2 := br_cut2 b c
    have lR2 : R.data.toList = Lib.itoa b ++ [32, 119, 97, 116, 101, 114, 32] ++ Lib.itoa c := lR
    rw [← lR2] at e2
    rw [e2] at lB lC
    obtain ⟨t1, t2, t3⟩ := tl_18 h
    exact ⟨na1 _ (by rw [show A.data.toList = Lib.itoa a from lA]; exact dec_in t1), nb1 _ (by rw [show B.data.toList = Lib.itoa b from lB]; exact dec_in t2), nc1 _ (by rw [show C.data.toList = Lib.itoa c from lC]; exact dec_in t3)⟩
  have nil : s.data.toList = [] → tlOk va vb vc := fun e => by
    rw [e, cut_nil] at lA lR
    rw [show R.data.toList = [] from lR, cut_nil] at lB lC
    rw [na0 lA, nb0 lB, nc0 lC]
    unfold tlOk
    omega
  obtain ⟨t, ht⟩ : ∃ t, t = r0_BreachText va vb vc := ⟨_, rfl⟩
  have BT := Lib.hid (show ∀ W : World, PowTab W → Calls Tryd.prog 57 #[.agg #[.int .i64 va, .int .i64 vb, .int .i64 vc]] W fun e w' => e = .returned (.string t) ∧ Below W.heap.size W w' from fun W hW => by rw [ht]; exact bt_any va vb vc W hW)
  have YES : t = s → res = some (va, vb, vc) := fun e => by
    rw [ht] at e
    by_cases h : tlOk va vb vc
    · refine (hres _ _ _).2 ⟨h, ?_⟩
      rw [← e, show r0_BreachText va vb vc = btT va vb vc from if_pos h, btT_list]
    · rw [show r0_BreachText va vb vc = ⟨#[]⟩ from if_neg h] at e
      exact absurd (nil (by rw [← e])) h
  have NO : t ≠ s → res = none := fun e => by
    cases hr : res with
    | none => rfl
    | some n =>
      obtain ⟨a, b, c⟩ := n
      obtain ⟨h1, h2⟩ := (hres a b c).1 hr
      obtain ⟨rfl, rfl, rfl⟩ := val a b c h1 h2
      refine absurd (bytes_ext ?_) e
      rw [ht, show r0_BreachText va vb vc = btT va vb vc from if_pos h1, btT_list, h2]
  clear val nil na nb nc na1 nb1 nc1 na0 nb0 nc0 lA lR lB lC hsl hAl hRl hBl hCl k1 k2 hres ht env hml hg
  have Z0 : Below w.heap.size w (w.alloc (.cells #[.int .i64 0, .int .i64 0, .int .i64 0] 41)) := Below.alloc (Below.refl _ _) (Nat.le_refl _) _
  go_enter Tryd.func25, Tryd.ntmps25
  go_wp2_with fail
  refine (C1.out _ ((Z0.cell (p := ⟨0, 0, none⟩) HG.out).trans HM.out)).mono ?_
  rintro e1 W1 ⟨rfl, n1, rfl⟩
  go_wp2_with fail
  have E1 : Below (w.heap.size + 1) (w.alloc (.cells #[.int .i64 0, .int .i64 0, .int .i64 0] 41)) ((w.alloc (.cells #[.int .i64 0, .int .i64 0, .int .i64 0] 41)).drewN n1) := below_drewN (Below.refl _ _) _
  have X1 := Z0.trans (E1.mono (by omega))
  refine (pairM_t _ R B C vb vc bb bc cv _ (C2.out _ ((X1.cell (p := ⟨0, 0, none⟩) HG.out).trans HM.out)) NB.out NC.out (HE.out.below X1)).mono ?_
  rintro e2 W2 ⟨rfl, b2⟩
  have E2 : Below (w.heap.size + 1) (w.alloc (.cells #[.int .i64 0, .int .i64 0, .int .i64 0] 41)) W2 := E1.trans (b2.mono (by first | (simp; done) | (simp; omega) | omega))
  obtain ⟨_, _, _, _, _, _, zs2⟩ := zb3 E2
  have X2 := zbD E2
  clear b2 E1 X1
  go_wp2_with fail
  refine (rnum_all NA.out _ (HE.out.below X2)).mono ?_
  rintro e3 W3 ⟨rfl, b3⟩
  have E3 : Below (w.heap.size + 1) (w.alloc (.cells #[.int .i64 0, .int .i64 0, .int .i64 0] 41)) W3 := E2.trans (b3.mono (by omega))
  obtain ⟨_, _, _, _, _, _, zs3⟩ := zb3 E3
  have A4 : Below W3.heap.size W3 (W3.alloc (.cells #[.int .i64 va, .int .i64 vb, .int .i64 vc] 41)) := Below.alloc (Below.refl _ _) (Nat.le_refl _) _
  have E4 : Below (w.heap.size + 1) (w.alloc (.cells #[.int .i64 0, .int .i64 0, .int .i64 0] 41)) (W3.alloc (.cells #[.int .i64 va, .int .i64 vb, .int .i64 vc] 41)) := E3.trans (A4.mono (by omega))
  have X4 := zbD E4
  have sA := A4.size
  clear b3 E2 X2
  go_wp2_with fail
  refine (BT.out _ (HE.out.below X4).pow).mono ?_
  rintro e5 W5 ⟨rfl, b5⟩
  have E6 : Below (w.heap.size + 1) (w.alloc (.cells #[.int .i64 0, .int .i64 0, .int .i64 0] 41)) W5 := E4.trans (b5.mono (by omega))
  have y0 := (b5.cell (p := ⟨W3.heap.size, 0, none⟩) (by first | omega | (simp; done) | (simp; omega))).trans (show (W3.alloc (.cells #[.int .i64 va, .int .i64 vb, .int .i64 vc] 41)).cell? ⟨W3.heap.size, 0, none⟩ = some (.int .i64 va) by simp)
  have y1 := (b5.cell (p := ⟨W3.heap.size, 1, none⟩) (by first | omega | (simp; done) | (simp; omega))).trans (show (W3.alloc (.cells #[.int .i64 va, .int .i64 vb, .int .i64 vc] 41)).cell? ⟨W3.heap.size, 1, none⟩ = some (.int .i64 vb) by simp)
  have y2 := (b5.cell (p := ⟨W3.heap.size, 2, none⟩) (by first | omega | (simp; done) | (simp; omega))).trans (show (W3.alloc (.cells #[.int .i64 va, .int .i64 vb, .int .i64 vc] 41)).cell? ⟨W3.heap.size, 2, none⟩ = some (.int .i64 vc) by simp)
  obtain ⟨z0, z1, z2, f0, f1, f2, zs6⟩ := zb3 E6
  have D6 := Lib.hid (zbD E6)
  clear b5 E4 X4 A4 E3 Z0
  by_cases hts : t = s
  · have hn := YES hts
    subst hn
    clear YES NO
    subst hts
    go_wp2
    have PZ := three_back (w := W5) (r := w.heap.size) (v0 := .int .i64 va) (v1 := .int .i64 vb) (v2 := .int .i64 vc) z0 z1 z2
    have DZ : Below w.heap.size w (((W5.setCell ⟨w.heap.size, 0, none⟩ (.int .i64 va)).setCell ⟨w.heap.size, 1, none⟩ (.int .i64 vb)).setCell ⟨w.heap.size, 2, none⟩ (.int .i64 vc)) := (((D6.out).setCell (p := ⟨w.heap.size, 0, none⟩) (Nat.le_refl _) _).setCell (p := ⟨w.heap.size, 1, none⟩) (Nat.le_refl _) _).setCell (p := ⟨w.heap.size, 2, none⟩) (Nat.le_refl _) _
    generalize (((W5.setCell ⟨w.heap.size, 0, none⟩ (.int .i64 va)).setCell ⟨w.heap.size, 1, none⟩ (.int .i64 vb)).setCell ⟨w.heap.size, 2, none⟩ (.int .i64 vc)) = Zw at PZ DZ ⊢
    obtain ⟨p0', p1', p2'⟩ := PZ
    exact bodyPost_ret (v := .tuple #[.agg #[.int .i64 va, .int .i64 vb, .int .i64 vc], .bool true]) (by simp [results, Tryd.results25, go_sem, p0', p1', p2']) rfl ⟨rfl, DZ⟩
  · have hn := NO hts
    subst hn
    have g1 : (t.toList == s.toList) = false := by have := strF5 hts; rwa [← ByteArray.toList_eq] at this
    clear YES NO hts
    go_wp2
    have PZ := three_back (w := W5) (r := w.heap.size) (v0 := .int .i64 0) (v1 := .int .i64 0) (v2 := .int .i64 0) z0 z1 z2
    have DZ : Below w.heap.size w (((W5.setCell ⟨w.heap.size, 0, none⟩ (.int .i64 0)).setCell ⟨w.heap.size, 1, none⟩ (.int .i64 0)).setCell ⟨w.heap.size, 2, none⟩ (.int .i64 0)) := (((D6.out).setCell (p := ⟨w.heap.size, 0, none⟩) (Nat.le_refl _) _).setCell (p := ⟨w.heap.size, 1, none⟩) (Nat.le_refl _) _).setCell (p := ⟨w.heap.size, 2, none⟩) (Nat.le_refl _) _
    generalize (((W5.setCell ⟨w.heap.size, 0, none⟩ (.int .i64 0)).setCell ⟨w.heap.size, 1, none⟩ (.int .i64 0)).setCell ⟨w.heap.size, 2, none⟩ (.int .i64 0)) = Zw at PZ DZ ⊢
    obtain ⟨p0', p1', p2'⟩ := PZ
    exact bodyPost_ret (v := .tuple #[.agg #[.int .i64 0, .int .i64 0, .int .i64 0], .bool false]) (by simp [results, Tryd.results25, go_sem, p0', p1', p2']) rfl ⟨rfl, DZ⟩

end Go.Proofs.YticbnahndidplaaDoor
