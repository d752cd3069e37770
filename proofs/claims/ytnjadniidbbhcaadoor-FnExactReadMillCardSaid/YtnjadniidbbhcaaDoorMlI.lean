/- ReadMill of the program. -/
import Derived.Test.YtnjadniidbbhcaaDoorMlS
import Derived.Test.YtnjadniidbbhcaaDoorNumI
import Derived.Test.YtnjadniidbbhcaaDoorCMillText
import Derived.Test.YtnjadniidbbhcaaDoorWFnExactReadDecimal
namespace Go.Proofs.YtnjadniidbbhcaaDoor
open Go.RowKit

theorem mT_list (a b c d : Int) : (mT a b c d).data.toList = mlL a b c d := by
  unfold mT mlL mD
  simp [ByteArray.data_append, Array.toList_append]
theorem mt_any (a b c d : Int) (w : World) (hpow : PowTab w) :
    Calls Tryd.prog 25 #[.agg #[.int .i64 a, .int .i64 b, .int .i64 c, .int .i64 d]] w fun e w' => e = .returned (.string (r0_MillText a b c d)) ∧ Below w.heap.size w w' := by
  by_cases h : mlOk a b c d
  · rw [show r0_MillText a b c d = mT a b c d from if_pos h]
    exact mtimpl a b c d w hpow h _ rfl
  · rw [show r0_MillText a b c d = ⟨#[]⟩ from if_neg h]
    have HV := Lib.hid (show false = decide (mlOk a b c d) from (decide_eq_false h).symm)
    clear h
    go_enter Tryd.func25, Tryd.ntmps25
    go_wp2_with (go_at_call 49; refine (mlI_any _ _ _ _ _ _ HV.out).mono ?_; rintro e0 W0 ⟨rfl, b0⟩)
    go_ret
    exact ⟨rfl, (by repeat (first | assumption | exact Below.refl _ _ | (refine Below.trans ?_ (b0.mono (by first | omega | (simp; done) | (simp; omega)))) | (refine Below.setCell ?_ (by first | omega | (simp; done) | (simp; omega)) _) | apply below_drewN | apply Below.drew | (refine Below.alloc ?_ (by first | omega | (simp; done) | (simp; omega)) _)))⟩
theorem mkB_ne {l : List UInt8} (h : l ≠ []) : mkB l ≠ ⟨#[]⟩ := fun e => h (by
  have := congrArg (fun p : ByteArray => p.data.toList) e
  simpa [mkB] using this)
theorem itoa_ne {n : Int} (h : In18 n) : Lib.itoa n ≠ [] := fun e => dec_nil n (by have := dec_in h; rwa [e] at this)
theorem ml_words {s : ByteArray} {a b c d : Int} (h : mlOk a b c d) (e : s.data.toList = mlL a b c d) : wordsOf s = [mkB [108, 105, 102, 116], mkB (Lib.itoa a), mkB [114, 97, 116, 101], mkB (Lib.itoa b), mkB [119, 105, 110, 100], mkB (Lib.itoa c ++ 45 :: Lib.itoa d)] := by
  obtain ⟨t1, t2, t3, t4⟩ := ml_18 h
  rw [words_filter, (mlk_ok h e).pa, List.filter_eq_self]
  intro y hy
  have h5 : y = mkB [108, 105, 102, 116] ∨ y = mkB (Lib.itoa a) ∨ y = mkB [114, 97, 116, 101] ∨ y = mkB (Lib.itoa b) ∨ y = mkB [119, 105, 110, 100] ∨ y = mkB (Lib.itoa c ++ 45 :: Lib.itoa d) := by simpa using hy
  refine decide_eq_true ?_
  rcases h5 with rfl | rfl | rfl | rfl | rfl | rfl
  · exact mkB_ne (by simp)
  · exact mkB_ne (itoa_ne t1)
  · exact mkB_ne (by simp)
  · exact mkB_ne (itoa_ne t2)
  · exact mkB_ne (by simp)
  · exact mkB_ne (by simp)
theorem nil_words {s : ByteArray} (e : s.data.toList = []) : (wordsOf s).length ≤ 1 := by
  rw [words_filter]
  refine Nat.le_trans (List.length_filter_le _ _) ?_
  rw [parts_split, e, List.length_map]
  exact Nat.le_refl 1
/-- a number read by the program: its value, and that it is what is written where anything is -/
theorem num6 (s : ByteArray) (hs : s.size ≤ 1048576) : ∃ (v : Int) (b : Bool), (∀ W : World, NumEnv W → Calls Tryd.prog 23 #[.string s] W fun e w' => e = .returned (.tuple #[.int .i64 v, .bool b]) ∧ Below W.heap.size W w') ∧ (∀ n, DecOf s.data.toList n → v = n) ∧ (s.data.toList = [] → v = 0) := by
  obtain ⟨r, hr⟩ := dec_res s.data.toList
  refine ⟨r.getD 0, r.isSome, fun W hW => num_impl s W hs hW r hr, fun n hn => ?_, fun h => ?_⟩
  · have := (hr n).2 hn
    subst this
    rfl
  · cases hrr : r with
    | none => rfl
    | some n => exact absurd (by rw [← h]; exact (hr n).1 hrr) (dec_nil n)

set_option maxHeartbeats 800000 in
/-- readPair at one text and one mark -/
theorem pairM_t (M BD A B : ByteArray) (va vb : Int) (ba bb cu : Bool) (w : World)
    (hc : Calls Tryd.prog 48 #[.string BD, .string M] w fun e w' => e = .returned (.tuple #[.string A, .string B, .bool cu]) ∧ ∃ n, w' = w.drewN n)
    (na : ∀ W : World, NumEnv W → Calls Tryd.prog 23 #[.string A] W fun e w' => e = .returned (.tuple #[.int .i64 va, .bool ba]) ∧ Below W.heap.size W w')
    (nb : ∀ W : World, NumEnv W → Calls Tryd.prog 23 #[.string B] W fun e w' => e = .returned (.tuple #[.int .i64 vb, .bool bb]) ∧ Below W.heap.size W w') (env : NumEnv w) :
    Calls Tryd.prog 24 #[.string BD, .string M] w fun e w' => e = .returned (.tuple #[.int .i64 va, .int .i64 vb]) ∧ Below w.heap.size w w' := by
  have HE := Lib.hid env
  have HC := Lib.hid hc
  have NA := Lib.hid na
  have NB := Lib.hid nb
  clear env hc na nb
  go_enter Tryd.func24, Tryd.ntmps24
  go_wp2_with fail
  refine HC.out.mono ?_
  rintro q1 w1 ⟨rfl, nd, rfl⟩
  go_wp2_with fail
  refine (NA.out _ (HE.out.below (by repeat (first | assumption | exact Below.refl _ _ | (refine Below.setCell ?_ (by first | omega | (simp; done) | (simp; omega)) _) | apply below_drewN | apply Below.drew | (refine Below.alloc ?_ (by first | omega | (simp; done) | (simp; omega)) _))))).mono ?_
  rintro q2 w2 ⟨rfl, b2⟩
  have d2 : Below w.heap.size w w2 := (by repeat (first | assumption | exact Below.refl _ _ | (refine Below.trans ?_ (b2.mono (by first | omega | (simp; done) | (simp; omega)))) | (refine Below.setCell ?_ (by first | omega | (simp; done) | (simp; omega)) _) | apply below_drewN | apply Below.drew | (refine Below.alloc ?_ (by first | omega | (simp; done) | (simp; omega)) _)))
  go_wp2_with fail
  refine (NB.out _ (HE.out.below d2)).mono ?_
  rintro q3 w3 ⟨rfl, b3⟩
  go_wp2
  go_ret2
  exact ⟨rfl, d2.trans (b3.mono d2.size)⟩


set_option maxRecDepth 100000 in
set_option maxHeartbeats 3200000 in
theorem rm_impl (s : ByteArray) (w : World) (hs : s.size ≤ 1048576) (env : NumEnv w) (ml : Int) (hml : w.cell? ⟨2, 0, none⟩ = some (.int .i64 ml)) (res : Option (Int × Int × Int × Int)) (hres : ∀ a b c d, res = some (a, b, c, d) ↔ mlOk a b c d ∧ s.data.toList = mlL a b c d) :
    Calls Tryd.prog 7 #[.string s] w fun e w' => e = .returned (.tuple #[.agg #[.int .i64 (res.getD (0, 0, 0, 0)).1, .int .i64 (res.getD (0, 0, 0, 0)).2.1, .int .i64 (res.getD (0, 0, 0, 0)).2.2.1, .int .i64 (res.getD (0, 0, 0, 0)).2.2.2], .bool res.isSome]) ∧ Below w.heap.size w w' := by
  have hg : 2 < w.heap.size := World.block_lt_of_cell? _ _ hml
  have HE := Lib.hid env
  have HM := Lib.hid hml
  have HG := Lib.hid hg
  have HRES := Lib.hid hres
  obtain ⟨P, hP⟩ : ∃ P, P = wordsOf s := ⟨_, rfl⟩
  have HP := Lib.hid hP
  have hsz : ∀ y ∈ P, y.size ≤ 1048576 := fun y hy => Nat.le_trans (words_sz s y (by rw [← hP]; exact hy)) hs
  have Z0 : Below w.heap.size w (w.alloc (.cells #[.int .i64 0, .int .i64 0, .int .i64 0, .int .i64 0] 23)) := Below.alloc (Below.refl _ _) (Nat.le_refl _) _
  clear env hml hg hres
  go_enter Tryd.func7, Tryd.ntmps7
  go_wp2_with fail
  refine (implC_SplitWords s _ hs).mono ?_
  rintro e1 W1 ⟨A, cc, rfl, b1, hw⟩
  rw [← hP] at hw ⊢
  have E1 : Below (w.heap.size + 1) (w.alloc (.cells #[.int .i64 0, .int .i64 0, .int .i64 0, .int .i64 0] 23)) W1 := b1.mono (by first | omega | (simp; done) | (simp; omega))
  have X1 := zbD E1
  have zq1 := (zb4 E1).2.2.2.2.2.2.2.2
  have HRd := Lib.hid hw.rd
  clear hw b1 hP
  by_cases c5 : P.length = 6
  · obtain ⟨p0, p1, p2, p3, p4, p5, rfl⟩ : ∃ p0 p1 p2 p3 p4 p5, P = [p0, p1, p2, p3, p4, p5] := by
      match P, c5 with
      | [a, b, c, d, e, f], _ => exact ⟨a, b, c, d, e, f, rfl⟩
    obtain ⟨bb, oo, rfl, hbb1, hc⟩ := HRd.out.2 (by simp)
    have ta1 : W1.cell? ⟨bb, oo + 1, none⟩ = some (.string p1) := hc 1 (by simp)
    have tb1 : W1.cell? ⟨bb, oo + 3, none⟩ = some (.string p3) := hc 3 (by simp)
    have tc1 : W1.cell? ⟨bb, oo + 5, none⟩ = some (.string p5) := hc 5 (by simp)
    have s1 := hsz p1 (by simp)
    have s3 := hsz p3 (by simp)
    have s5 := hsz p5 (by simp)
    clear hc
    obtain ⟨B, hB⟩ : ∃ A : ByteArray, A = ⟨(Lib.cut p5.data.toList (ByteArray.mk #[45]).data.toList).1.toArray⟩ := ⟨_, rfl⟩
    obtain ⟨C, hC⟩ : ∃ A : ByteArray, A = ⟨(Lib.cut p5.data.toList (ByteArray.mk #[45]).data.toList).2.1.toArray⟩ := ⟨_, rfl⟩
    obtain ⟨cv, hcv⟩ : ∃ A : Bool, A = (Lib.cut p5.data.toList (ByteArray.mk #[45]).data.toList).2.2 := ⟨_, rfl⟩
    have lB : B.data.toList = (Lib.cut p5.data.toList [45]).1 := by rw [hB]
    have lC : C.data.toList = (Lib.cut p5.data.toList [45]).2.1 := by rw [hC]
    have hPl : p5.data.toList.length = p5.size := rfl
    have hBl : B.data.toList.length = B.size := rfl
    have hCl : C.data.toList.length = C.size := rfl
    have k2 := cut_len p5.data.toList [45]
    rw [← lB, ← lC] at k2
    have zB : B.size ≤ 1048576 := by omega
    have zC : C.size ≤ 1048576 := by omega
    have C2 := Lib.hid (show ∀ W : World, W.cell? ⟨2, 0, none⟩ = some (.int .i64 ml) → Calls Tryd.prog 48 #[.string p5, .string ⟨#[45]⟩] W fun e w' => e = .returned (.tuple #[.string B, .string C, .bool cv]) ∧ ∃ n, w' = W.drewN n from fun W hW => by
      rw [hB, hC, hcv]
      exact Tryd.strings_Cut p5 ⟨#[45]⟩ ml W (by omega) hW)
    clear hB hC hcv
    obtain ⟨va, ba, na, na1, _⟩ := num6 p1 s1
    obtain ⟨vb, bb', nb, nb1, _⟩ := num6 p3 s3
    obtain ⟨vc, bc, nc, nc1, _⟩ := num6 B zB
    obtain ⟨vd, bd, nd, nd1, _⟩ := num6 C zC
    have NA := Lib.hid na
    have NB := Lib.hid nb
    have NC := Lib.hid nc
    have ND := Lib.hid nd
    have val : ∀ a b c d, mlOk a b c d → s.data.toList = mlL a b c d → va = a ∧ vb = b ∧ vc = c ∧ vd = d := fun a b c d h e => by
      obtain ⟨t1, t2, t3, t4⟩ := ml_18 h
      have hw := HP.out.trans (ml_words h e)
      simp only [List.cons.injEq, and_true] at hw
      obtain ⟨_, e1, _, e3, _, e5⟩ := hw
      have l1 : p1.data.toList = Lib.itoa a := by rw [e1]; simp [mkB]
      have l3 : p3.data.toList = Lib.itoa b := by rw [e3]; simp [mkB]
      have l5 : p5.data.toList = Lib.itoa c ++ [45] ++ Lib.itoa d := by rw [e5]; simp [mkB]
      have e2 : Lib.cut p5.data.toList [45] = (Lib.itoa c, Lib.itoa d, true) := by
        rw [l5]
        exact cut_seq 45 [] _ _ (fun x hx e2 => itoa_pos45 (n := c) (by obtain ⟨_, _, h3, _⟩ := h; omega) x hx (by rw [e2]; rfl))
      rw [e2] at lB lC
      exact ⟨na1 _ (by rw [l1]; exact dec_in t1), nb1 _ (by rw [l3]; exact dec_in t2), nc1 _ (by rw [show B.data.toList = Lib.itoa c from lB]; exact dec_in t3), nd1 _ (by rw [show C.data.toList = Lib.itoa d from lC]; exact dec_in t4)⟩
    obtain ⟨t, ht⟩ : ∃ t, t = r0_MillText va vb vc vd := ⟨_, rfl⟩
    have BT := Lib.hid (show ∀ W : World, PowTab W → Calls Tryd.prog 25 #[.agg #[.int .i64 va, .int .i64 vb, .int .i64 vc, .int .i64 vd]] W fun e w' => e = .returned (.string t) ∧ Below W.heap.size W w' from fun W hW => by rw [ht]; exact mt_any va vb vc vd W hW)
    have YES : t = s → res = some (va, vb, vc, vd) := fun e => by
      rw [ht] at e
      by_cases h : mlOk va vb vc vd
      · refine (HRES.out _ _ _ _).2 ⟨h, ?_⟩
        rw [← e, show r0_MillText va vb vc vd = mT va vb vc vd from if_pos h, mT_list]
      · rw [show r0_MillText va vb vc vd = ⟨#[]⟩ from if_neg h] at e
        have h1 := nil_words (s := s) (by rw [← e])
        rw [← HP.out] at h1
        simp at h1
    have NO : t ≠ s → res = none := fun e => by
      cases hr : res with
      | none => rfl
      | some n =>
        obtain ⟨a, b, c, d⟩ := n
        obtain ⟨h1, h2⟩ := (HRES.out a b c d).1 hr
        obtain ⟨rfl, rfl, rfl, rfl⟩ := val a b c d h1 h2
        refine absurd (bytes_ext ?_) e
        rw [ht, show r0_MillText va vb vc vd = mT va vb vc vd from if_pos h1, mT_list, h2]
    clear val na nb nc nd na1 nb1 nc1 nd1 lB lC hPl hBl hCl k2 ht
    go_wp2_with fail
    refine (NA.out _ (HE.out.below X1)).mono ?_
    rintro e2 W2 ⟨rfl, b2⟩
    have E2 : Below (w.heap.size + 1) (w.alloc (.cells #[.int .i64 0, .int .i64 0, .int .i64 0, .int .i64 0] 23)) W2 := E1.trans (b2.mono (by omega))
    have tb2 := (b2.cell (p := ⟨bb, oo + 3, none⟩) hbb1).trans tb1
    have tc2 := (b2.cell (p := ⟨bb, oo + 5, none⟩) hbb1).trans tc1
    have hbb2 : bb < W2.heap.size := Nat.lt_of_lt_of_le hbb1 b2.size
    have zq2 := (zb4 E2).2.2.2.2.2.2.2.2
    have X2 := zbD E2
    clear b2
    go_wp2_with fail
    refine (NB.out _ (HE.out.below X2)).mono ?_
    rintro e3 W3 ⟨rfl, b3⟩
    have E3 : Below (w.heap.size + 1) (w.alloc (.cells #[.int .i64 0, .int .i64 0, .int .i64 0, .int .i64 0] 23)) W3 := E2.trans (b3.mono (by omega))
    have tc3 := (b3.cell (p := ⟨bb, oo + 5, none⟩) hbb2).trans tc2
    have hbb3 : bb < W3.heap.size := Nat.lt_of_lt_of_le hbb2 b3.size
    have zq3 := (zb4 E3).2.2.2.2.2.2.2.2
    have X3 := zbD E3
    clear b3
    go_wp2_with fail
    refine (pairM_t _ p5 B C vc vd bc bd cv _ (C2.out _ ((X3.cell (p := ⟨2, 0, none⟩) HG.out).trans HM.out)) NC.out ND.out (HE.out.below X3)).mono ?_
    rintro e4 W4 ⟨rfl, b4⟩
    have E4 : Below (w.heap.size + 1) (w.alloc (.cells #[.int .i64 0, .int .i64 0, .int .i64 0, .int .i64 0] 23)) W4 := E3.trans (b4.mono (by omega))
    have zq4 := (zb4 E4).2.2.2.2.2.2.2.2
    have A5 : Below W4.heap.size W4 (W4.alloc (.cells #[.int .i64 va, .int .i64 vb, .int .i64 vc, .int .i64 vd] 23)) := Below.alloc (Below.refl _ _) (Nat.le_refl _) _
    have E5 : Below (w.heap.size + 1) (w.alloc (.cells #[.int .i64 0, .int .i64 0, .int .i64 0, .int .i64 0] 23)) (W4.alloc (.cells #[.int .i64 va, .int .i64 vb, .int .i64 vc, .int .i64 vd] 23)) := E4.trans (A5.mono (by omega))
    have X5 := zbD E5
    have sA := A5.size
    clear b4
    go_wp2_with fail
    refine (BT.out _ (HE.out.below X5).pow).mono ?_
    rintro e6 W6 ⟨rfl, b6⟩
    have E6 : Below (w.heap.size + 1) (w.alloc (.cells #[.int .i64 0, .int .i64 0, .int .i64 0, .int .i64 0] 23)) W6 := E5.trans (b6.mono (by omega))
    have y0' := (b6.cell (p := ⟨W4.heap.size, 0, none⟩) (by first | omega | (simp; done) | (simp; omega))).trans (show (W4.alloc (.cells #[.int .i64 va, .int .i64 vb, .int .i64 vc, .int .i64 vd] 23)).cell? ⟨W4.heap.size, 0, none⟩ = some (.int .i64 va) by simp)
    have y1' := (b6.cell (p := ⟨W4.heap.size, 1, none⟩) (by first | omega | (simp; done) | (simp; omega))).trans (show (W4.alloc (.cells #[.int .i64 va, .int .i64 vb, .int .i64 vc, .int .i64 vd] 23)).cell? ⟨W4.heap.size, 1, none⟩ = some (.int .i64 vb) by simp)
    have y2' := (b6.cell (p := ⟨W4.heap.size, 2, none⟩) (by first | omega | (simp; done) | (simp; omega))).trans (show (W4.alloc (.cells #[.int .i64 va, .int .i64 vb, .int .i64 vc, .int .i64 vd] 23)).cell? ⟨W4.heap.size, 2, none⟩ = some (.int .i64 vc) by simp)
    have y3' := (b6.cell (p := ⟨W4.heap.size, 3, none⟩) (by first | omega | (simp; done) | (simp; omega))).trans (show (W4.alloc (.cells #[.int .i64 va, .int .i64 vb, .int .i64 vc, .int .i64 vd] 23)).cell? ⟨W4.heap.size, 3, none⟩ = some (.int .i64 vd) by simp)
    obtain ⟨z0, z1, z2, z3, f0, f1, f2, f3, zsL⟩ := zb4 E6
    have D6 := Lib.hid (zbD E6)
    clear b6 E5 X5 A5 E4 Z0 ta1 tb1 tc1 tb2 tc2 tc3
    by_cases hts : t = s
    · have hn := YES hts
      subst hn
      clear YES NO HRES
      subst hts
      go_wp2
      have PZ := four_back (w := W6) (r := w.heap.size) (v0 := .int .i64 va) (v1 := .int .i64 vb) (v2 := .int .i64 vc) (v3 := .int .i64 vd) z0 z1 z2 z3
      have DZ : Below w.heap.size w ((((W6.setCell ⟨w.heap.size, 0, none⟩ (.int .i64 va)).setCell ⟨w.heap.size, 1, none⟩ (.int .i64 vb)).setCell ⟨w.heap.size, 2, none⟩ (.int .i64 vc)).setCell ⟨w.heap.size, 3, none⟩ (.int .i64 vd)) := ((((D6.out).setCell (p := ⟨w.heap.size, 0, none⟩) (Nat.le_refl _) _).setCell (p := ⟨w.heap.size, 1, none⟩) (Nat.le_refl _) _).setCell (p := ⟨w.heap.size, 2, none⟩) (Nat.le_refl _) _).setCell (p := ⟨w.heap.size, 3, none⟩) (Nat.le_refl _) _
      generalize ((((W6.setCell ⟨w.heap.size, 0, none⟩ (.int .i64 va)).setCell ⟨w.heap.size, 1, none⟩ (.int .i64 vb)).setCell ⟨w.heap.size, 2, none⟩ (.int .i64 vc)).setCell ⟨w.heap.size, 3, none⟩ (.int .i64 vd)) = Zw at PZ DZ ⊢
      obtain ⟨p0', p1', p2', p3'⟩ := PZ
      exact bodyPost_ret (v := .tuple #[.agg #[.int .i64 va, .int .i64 vb, .int .i64 vc, .int .i64 vd], .bool true]) (by simp [results, Tryd.results7, go_sem, p0', p1', p2', p3']) rfl ⟨rfl, DZ⟩
    · have hn := NO hts
      subst hn
      have g1 : (t.toList == s.toList) = false := by have := strF5 hts; rwa [← ByteArray.toList_eq] at this
      clear YES NO hts HRES
      go_wp2
      have PZ := four_back (w := W6) (r := w.heap.size) (v0 := .int .i64 0) (v1 := .int .i64 0) (v2 := .int .i64 0) (v3 := .int .i64 0) z0 z1 z2 z3
      have DZ : Below w.heap.size w ((((W6.setCell ⟨w.heap.size, 0, none⟩ (.int .i64 0)).setCell ⟨w.heap.size, 1, none⟩ (.int .i64 0)).setCell ⟨w.heap.size, 2, none⟩ (.int .i64 0)).setCell ⟨w.heap.size, 3, none⟩ (.int .i64 0)) := ((((D6.out).setCell (p := ⟨w.heap.size, 0, none⟩) (Nat.le_refl _) _).setCell (p := ⟨w.heap.size, 1, none⟩) (Nat.le_refl _) _).setCell (p := ⟨w.heap.size, 2, none⟩) (Nat.le_refl _) _).setCell (p := ⟨w.heap.size, 3, none⟩) (Nat.le_refl _) _
      generalize ((((W6.setCell ⟨w.heap.size, 0, none⟩ (.int .i64 0)).setCell ⟨w.heap.size, 1, none⟩ (.int .i64 0)).setCell ⟨w.heap.size, 2, none⟩ (.int .i64 0)).setCell ⟨w.heap.size, 3, none⟩ (.int .i64 0)) = Zw at PZ DZ ⊢
      obtain ⟨p0', p1', p2', p3'⟩ := PZ
      exact bodyPost_ret (v := .tuple #[.agg #[.int .i64 0, .int .i64 0, .int .i64 0, .int .i64 0], .bool false]) (by simp [results, Tryd.results7, go_sem, p0', p1', p2', p3']) rfl ⟨rfl, DZ⟩
  · have c5' : ((P.length : Int) != 6) = true := by simp; omega
    have hn : res = none := by
      cases hr : res with
      | none => rfl
      | some n =>
        obtain ⟨a, b, c, d⟩ := n
        obtain ⟨h1, h2⟩ := (HRES.out a b c d).1 hr
        exact absurd (by rw [HP.out, ml_words h1 h2]; rfl) c5
    obtain ⟨z0, z1, z2, z3, f0, f1, f2, f3, zsL⟩ := zb4 E1
    have D1 := Lib.hid X1
    clear HRES
    subst hn
    go_wp2_with fail
    have PZ := four_back (w := W1) (r := w.heap.size) (v0 := .int .i64 0) (v1 := .int .i64 0) (v2 := .int .i64 0) (v3 := .int .i64 0) z0 z1 z2 z3
    have DZ : Below w.heap.size w ((((W1.setCell ⟨w.heap.size, 0, none⟩ (.int .i64 0)).setCell ⟨w.heap.size, 1, none⟩ (.int .i64 0)).setCell ⟨w.heap.size, 2, none⟩ (.int .i64 0)).setCell ⟨w.heap.size, 3, none⟩ (.int .i64 0)) := ((((D1.out).setCell (p := ⟨w.heap.size, 0, none⟩) (Nat.le_refl _) _).setCell (p := ⟨w.heap.size, 1, none⟩) (Nat.le_refl _) _).setCell (p := ⟨w.heap.size, 2, none⟩) (Nat.le_refl _) _).setCell (p := ⟨w.heap.size, 3, none⟩) (Nat.le_refl _) _
    generalize ((((W1.setCell ⟨w.heap.size, 0, none⟩ (.int .i64 0)).setCell ⟨w.heap.size, 1, none⟩ (.int .i64 0)).setCell ⟨w.heap.size, 2, none⟩ (.int .i64 0)).setCell ⟨w.heap.size, 3, none⟩ (.int .i64 0)) = Zw at PZ DZ ⊢
    obtain ⟨p0', p1', p2', p3'⟩ := PZ
    exact bodyPost_ret (v := .tuple #[.agg #[.int .i64 0, .int .i64 0, .int .i64 0, .int .i64 0], .bool false]) (by simp [results, Tryd.results7, go_sem, p0', p1', p2', p3']) rfl ⟨rfl, DZ⟩

end Go.Proofs.YtnjadniidbbhcaaDoor
