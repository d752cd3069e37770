/- ReadMill of the program. -/
import Derived.Test.YticbnahndidplaaDoorMlS
import Derived.Test.YticbnahndidplaaDoorNumI
import Derived.Test.YticbnahndidplaaDoorCMillText
import Derived.Test.YticbnahndidplaaDoorWFnExactReadDecimal
import Derived.Test.YticbnahndidplaaDoorRNum
namespace Go.Proofs.YticbnahndidplaaDoor
open Go.RowKit

theorem mT_list (a b c d : Int) : (mT a b c d).data.toList = mlL a b c d := by
  unfold mT mlL mD
  simp [ByteArray.data_append, Array.toList_append]
theorem mt_any (a b c d : Int) (w : World) (hpow : PowTab w) :
    Calls Tryd.prog 54 #[.agg #[.int .i64 a, .int .i64 b, .int .i64 c, .int .i64 d]] w fun e w' => e = .returned (.string (r0_MillText a b c d)) ∧ Below w.heap.size w w' := by
  by_cases h : mlOk a b c d
  · rw [show r0_MillText a b c d = mT a b c d from if_pos h]
    exact mtimpl a b c d w hpow h _ rfl
  · rw [show r0_MillText a b c d = ⟨#[]⟩ from if_neg h]
    have HV := Lib.hid (show false = decide (mlOk a b c d) from (decide_eq_false h).symm)
    clear h
    go_enter Tryd.func54, Tryd.ntmps54
    go_wp2_with (go_at_call 80; refine (mlI_any _ _ _ _ _ _ HV.out).mono ?_; rintro e0 W0 ⟨rfl, b0⟩)
    go_ret
    exact ⟨rfl, (by repeat (first | assumption | exact Below.refl _ _ | (refine Below.trans ?_ (b0.mono (by first | omega | (simp; done) | (simp; omega)))) | (refine Below.setCell ?_ (by first | omega | (simp; done) | (simp; omega)) _) | apply below_drewN | apply Below.drew | (refine Below.alloc ?_ (by first | omega | (simp; done) | (simp; omega)) _)))⟩
theorem mkB_ne {l : List UInt8} (h : l ≠ []) : mkB l ≠ ⟨#[]⟩ := fun e => h (by
  have := congrArg (fun p : ByteArray => p.data.toList) e
  simpa [mkB] using this)
theorem itoa_ne {n : Int} (h : In18 n) : Lib.itoa n ≠ [] := fun e => dec_nil n (by have := dec_in h; rwa [e] at this)
theorem ml_words {s : ByteArray} {a b c d : Int} (h : mlOk a b c d) (e : s.data.toList = mlL a b c d) : wordsOf s = [mkB [108, 105, 102, 116], mkB (Lib.itoa a), mkB [114, 97, 116, 101], mkB (Lib.itoa b), mkB [119, 105, 110, 100], mkB (Lib.itoa c ++ 45 :: Lib.itoa d)] := by
  obtain ⟨t1, t2, t3, t4⟩ := ml_18 h
  rw [words_filter, (mlk_ok h e).pa, List.filter_eq_self]
  intro y hy
  have h5 : y = mkB [108, 105, 102, 116] ∨ y = mkB (Lib.itoa a) ∨ y = mkB [114, 97, 116, 101] ∨ y = mkB (Lib.itoa b) ∨ y = mkB [119, 105, 110, 100] ∨ y = mkB (Lib.itoa c ++ 45 :: Lib.itoa d) := by simpa using hy
  refine decide_eq_true ?_
  rcases h5 with rfl | rfl | rfl | rfl | rfl | rfl
  · exact mkB_ne (by simp)
  · exact mkB_ne (itoa_ne t1)
  · exact mkB_ne (by simp)
  · exact mkB_ne (itoa_ne t2)
  · exact mkB_ne (by simp)
  · exact mkB_ne (by simp)
theorem nil_words {s : ByteArray} (e : s.data.toList = []) : (wordsOf s).length ≤ 1 := by
  rw [words_filter]
  refine Nat.le_trans (List.length_filter_le _ _) ?_
  rw [parts_split, e, List.length_map]
  exact Nat.le_refl 1
/-- a number read by the program: its value, and that it is what is written where anything is -/
theorem num6 (s : ByteArray) (hs : s.size ≤ 1048576) : ∃ (v : Int) (b : Bool), (∀ W : World, NumEnv W → Calls Tryd.prog 79 #[.string s] W fun e w' => e = .returned (.tuple #[.int .i64 v, .bool b]) ∧ Below W.heap.size W w') ∧ (∀ n, DecOf s.data.toList n → v = n) ∧ (s.data.toList = [] → v = 0) := by
  obtain ⟨r, hr⟩ := dec_res s.data.toList
  refine ⟨r.getD 0, r.isSome, fun W hW => num_impl s W hs hW r hr, fun n hn => ?_, fun h => ?_⟩
  · have := (hr n).2 hn
    subst this
    rfl
  · cases hrr : r with
    | none => rfl
    | some n => exact absurd (by rw [← h]; exact (hr n).1 hrr) (dec_nil n)

set_option maxHeartbeats 800000 in
/-- readPair at one text and one mark -/
theorem pairM_t (M BD A B : ByteArray) (va vb : Int) (ba bb cu : Bool) (w : World)
    (hc : Calls Tryd.prog 56 #[.string BD, .string M] w fun e w' => e = .returned (.tuple #[.string A, .string B, .bool cu]) ∧ ∃ n, w' = w.drewN n)
    (na : ∀ W : World, NumEnv W → Calls Tryd.prog 79 #[.string A] W fun e w' => e = .returned (.tuple #[.int .i64 va, .bool ba]) ∧ Below W.heap.size W w')
    (nb : ∀ W : World, NumEnv W → Calls Tryd.prog 79 #[.string B] W fun e w' => e = .returned (.tuple #[.int .i64 vb, .bool bb]) ∧ Below W.heap.size W w') (env : NumEnv w) :
    Calls Tryd.prog 37 #[.string BD, .string M] w fun e w' => e = .returned (.tuple #[.int .i64 va, .int .i64 vb]) ∧ Below w.heap.size w w' := by
  have HE := Lib.hid env
  have HC := Lib.hid hc
  have NA := Lib.hid (rnum_all na)
  have NB := Lib.hid (rnum_all nb)
  clear env hc na nb
  go_enter Tryd.func37, Tryd.ntmps37
  go_wp2_with fail
  refine HC.out.mono ?_
  rintro q1 w1 ⟨rfl, nd, rfl⟩
  go_wp2_with fail
  refine (NA.out _ (HE.out.below (by repeat (first | assumption | exact Below.refl _ _ | (refine Below.setCell ?_ (by first | omega | (simp; done) | (simp; omega)) _) | apply below_drewN | apply Below.drew | (refine Below.alloc ?_ (by first | omega | (simp; done) | (simp; omega)) _))))).mono ?_
  rintro q2 w2 ⟨rfl, b2⟩
  have d2 : Below w.heap.size w w2 := (by repeat (first | assumption | exact Below.refl _ _ | (refine Below.trans ?_ (b2.mono (by first | omega | (simp; done) | (simp; omega)))) | (refine Below.setCell ?_ (by first | omega | (simp; done) | (simp; omega)) _) | apply below_drewN | apply Below.drew | (refine Below.alloc ?_ (by first | omega | (simp; done) | (simp; omega)) _)))
  go_wp2_with fail
  refine (NB.out _ (HE.out.below d2)).mono ?_
  rintro q3 w3 ⟨rfl, b3⟩
  go_wp2
  go_ret2
  exact ⟨rfl, d2.trans (b3.mono d2.size)⟩


set_option maxRecDepth 100000 in
set_option maxHeartbeats 3200000 in
theorem rm_impl (s : ByteArray) (w : World) (hs : s.size ≤ 1048576) (env : NumEnv w) (ml : Int) (hml : w.cell? ⟨0, 0, none⟩ = some (.int .i64 ml)) (res : Option (Int × Int × Int × Int)) (hres : ∀ a b c d, res = some (a, b, c, d) ↔ mlOk a b c d ∧ s.data.toList = mlL a b c d) :
    Calls Tryd.prog 22 #[.string s] w fun e w' => e = .returned (.tuple #[.agg #[.int .i64 (res.getD (0, 0, 0, 0)).1, .int .i64 (res.getD (0, 0, 0, 0)).2.1, .int .i64 (res.getD (0, 0, 0, 0)).2.2.1, .int .i64 (res.getD (0, 0, 0, 0)).2.2.2], .bool res.isSome]) ∧ Below w.heap.size w w' := by
  have hg : 0 < w.heap.size := World.block_lt_of_cell? _ _ hml
  have HE := Lib.hid env
  have HM := Lib.hid hml
  have HG := Lib.hid hg
  have HRES := Lib.hid hres
  obtain ⟨P, hP⟩ : ∃ P, P = wordsOf s := ⟨_, rfl⟩
  have HP := Lib.hid hP
  have hsz : ∀ y ∈ P, y.size ≤ 1048576 := fun y hy => Nat.le_trans (words_sz s y (by rw [← hP]; exact hy)) hs
  have Z0 : Below w.heap.size w (w.alloc (.cells #[.int .i64 0, .int .i64 0, .int .i64 0, .int .i64 0] 36)) := Below.alloc (Below.refl _ _) (Nat.le_refl _) _
  clear env hml hg hres
  go_enter Tryd.func22, Tryd.ntmps22
  go_wp2_with fail
  refine (implC_SplitWords s _ hs).mono ?_
  rintro e1 W1 ⟨A, cc, rfl, b1, hw⟩
  rw [← hP] at hw ⊢
  have E1 : Below (w.heap.size + 1) (w.alloc (.cells #[.int .i64 0, .int .i64 0, .int .i64 0, .int .i64 0] 36)) W1 := b1.mono (by first | omega | (simp; done) | (simp; omega))
  have X1 := zbD E1
  have zq1 := (zb4 E1).2.2.2.2.2.2.2.2
  have HRd := Lib.hid hw.rd
  clear hw b1 hP
  by_cases c5 : P.length = 6
  · obtain ⟨p0, p1, p2, p3, p4, p5, rfl⟩ : ∃ p0 p1 p2 p3 p4 p5, P = [p0, p1, p2, p3, p4, p5] := by
      match P, c5 with
      | [a, b, c, d, e, f], _ => exact ⟨a, b, c, d, e, f, rfl⟩
    obtain ⟨bb, oo, rfl, hbb1, hc⟩ := HRd.out.2 (by simp)
    have ta1 : W1.cell? ⟨bb, oo + 1, none⟩ = some (.string p1) := hc 1 (by simp)
    have tb1 : W1.cell? ⟨bb, oo + 3, none⟩ = some (.string p3) := hc 3 (by simp)
    have tc1 : W1.cell? ⟨bb, oo + 5, none⟩ = some (.string p5) := hc 5 (by simp)
    have s1 := hsz p1 (by simp)
    have s3 := hsz p3 (by simp)
    have s5 := hsz p5 (by simp)
    clear hc
    obtain ⟨B, hB⟩ : ∃ A : ByteArray, A = ⟨(Lib.cut p5.data.toList (ByteArray.mk #[45]).data.toList).1.toArray⟩ := ⟨_, rfl⟩
    obtain ⟨C, hC⟩ : ∃ A : ByteArray, A = ⟨(Lib.cut p5.data.toList (ByteArray.mk #[45]).data.toList).2.1.toArray⟩ := ⟨_, rfl⟩
    obtain ⟨cv, hcv⟩ : ∃ A : Bool, A = (Lib.cut p5.data.toList (ByteArray.mk #[45]).data.toList).2.2 := ⟨_, rfl⟩
    have lB : B.data.toList = (Lib.cut p5.data.toList [45]).1 := by rw [hB]
    have lC : C.data.toList = (Lib.cut p5.data.toList [45]).2.1 := by rw [hC]
    have hPl : p5.data.toList.length = p5.size := rfl
    have hBl : B.data.toList.length = B.size := rfl
    have hCl : C.data.toList.length = C.size := rfl
    have k2 := cut_len p5.data.toList [45]
    rw [← lB, ← lC] at k2
    have zB : B.size ≤ 1048576 := by omega
    have zC : C.size ≤ 1048576 := by omega
    have C2 := Lib.hid (show ∀ W : World, W.cell? ⟨0, 0, none⟩ = some (.int .i64 ml) → Calls Tryd.prog 56 #[.string p5, .string ⟨#[45]⟩] W fun e w' => e = .returned (.tuple #[.string B, .string C, .bool cv]) ∧ ∃ n, w' = W.drewN n from fun W hW => by
      rw [hB, hC, hcv]
      exact Tryd.strings_Cut p5 ⟨#[45]⟩ ml W (by omega) hW)
    clear hB hC hcv
    obtain ⟨va, ba, na, na1, _⟩ := num6 p1 s1
    obtain ⟨vb, bb', nb, nb1, _⟩ := num6 p3 s3
    obtain ⟨vc, bc, nc, nc1, _⟩ := num6 B zB
    obtain ⟨vd, bd, nd, nd1, _⟩ := num6 C zC
    have NA := Lib.hid na
    have NB := Lib.hid nb
    have NC := Lib.hid nc
    have ND := Lib.hid nd
    have val : ∀ a b c d, mlOk a b c d → s.data.toList = mlL a b c d → va = a ∧ vb = b ∧ vc = c ∧ vd = d := fun a b c d h e => by
      obtain ⟨t1, t2, t3, t4⟩ := ml_18 h
      have hw := HP.out.trans (ml_words h e)
      simp only [List.cons.injEq, and_true] at hw
      obtain ⟨_, e1, _, e3, _, e5⟩ := hw
      have l1 : p1.data.toList = Lib.itoa a := by rw [e1]; simp [mkB]
      have l3 : p3.data.toList = Lib.itoa b := by rw [e3]; simp [mkB]
      have l5 : p5.data.toList = Lib.itoa c ++ [45] ++ Lib.itoa d := by rw [e5]; simp [mkB]
      have e2 : Lib.cut p5.data.toList [45] = (Lib.itoa c, Lib.itoa d, true) := by
        rw [l5]
        exact cut_seq 45 [] _ _ (fun x hx e2 => itoa_pos45 (n := c) (by obtain ⟨_, _, h3, _⟩ := h; omega) x hx (by rw [e2]; rfl))
      rw [e2] at lB lC
      exact ⟨na1 _ (by rw [l1]; exact dec_in t1), nb1 _ (by rw [l3]; exact dec_in t2), nc1 _ (by rw [show B.data.toList = Lib.itoa c from lB]; exact dec_in t3), nd1 _ (by rw [show C.data.toList = Lib.itoa d from lC]; exact dec_in t4)⟩
    obtain ⟨t, ht⟩ : ∃ t, t = r0_MillText va vb vc vd := ⟨_, rfl⟩
    have BT := Lib.hid (show ∀ W : World, PowTab W → Calls Tryd.prog 54 #[.agg #[.int .i64 va, .int .i64 vb, .int .i64 vc, .int .i64 vd]] W fun e w' => e = .returned (.string t) ∧ Below W.heap.size W w' from fun W hW => by rw [ht]; exact mt_any va vb vc vd W hW)
    have YES : t = s → res = some (va, vb, vc, vd) := fun e => by
      rw [ht] at e
      by_cases h : mlOk va vb vc vd
      · refine (HRES.out _ _ _ _).2 ⟨h, ?_⟩
        rw [← e, show r0_MillText va vb vc vd = mT va vb vc vd from if_pos h, mT_list]
      · rw [show r0_MillText va vb vc vd = ⟨#[]⟩ from if_neg h] at e
        have h1 := nil_words (s := s) (by rw [← e])
        rw [← HP.out] at h1
        simp at h1
    have NO : t ≠ s → res = none := fun e => by
      cases hr : res with
      | none => rfl
      | some n =>
        obtain ⟨a, b, c, d⟩ := n
        obtain ⟨h1, h2⟩ := (HRES.out a b c d).1 hr
        obtain ⟨rfl, rfl, rfl, rfl⟩ := val a b c d h1 h2
        refine absurd (bytes_ext ?_) e
        rw [ht, show r0_MillText va vb vc vd = mT va vb vc vd from if_pos h1, mT_list, h2]
    clear val na nb nc nd na1 nb1 nc1 nd1 lB lC hPl hBl hCl k2 ht
    go_wp2_with fail
    refine (pairM_t _ p5 B C vc vd bc bd cv _ (C2.out _ ((X1.cell (p := ⟨0, 0, none⟩) HG.out).trans HM.out)) NC.out ND.out (HE.out.below X1)).mono ?_
    rintro e2 W2 ⟨rfl, b2⟩
    have E2 : Below (w.heap.size + 1) (w.alloc (.cells #[.int .i64 0, .int .i64 0, .int .i64 0, .int .i64 0] 36)) W2 := E1.trans (b2.mono (by omega))
    have ta2 := (b2.cell (p := ⟨bb, oo + 1, none⟩) hbb1).trans ta1
    have tb2 := (b2.cell (p := ⟨bb, oo + 3, none⟩) hbb1).trans tb1
    have hbb2 : bb < W2.heap.size := Nat.lt_of_lt_of_le hbb1 b2.size
    have zq2 := (zb4 E2).2.2.2.2.2.2.2.2
    have X2 := zbD E2
    have NA2 := Lib.hid (rnum_all NA.out)
    have NB2 := Lib.hid (rnum_all NB.out)
    clear b2 ta1 tb1 tc1 X1 E1 NA NB NC ND C2 zq1 Z0
    have HYES := Lib.hid YES
    have HNO := Lib.hid NO
    clear YES NO
    have AL := fun (O : Obj) => ((Below.refl W2.heap.size W2).drew.alloc (Nat.le_refl _) O)
    go_wp2_with fail
    refine wp_region_held_drew (S := fun w' => w'.cell? ⟨bb, oo + 1, none⟩ = some (.string p1) ∧ w'.cell? ⟨bb, oo + 3, none⟩ = some (.string p3)) (by kernel_rfl) ⟨ta2, tb2⟩ (fun hHeld => ?_)
    ((refine wpAnyH_take (i := 0) (oi := ⟨some 21, _, _, _, _, _⟩) (v := ?_) rfl (by kernel_rfl) (by kernel_rfl) (by kernel_rfl) (fun _ _ _ h => h) (Or.inl ⟨by rfl, ?_⟩) (by assumption) ?_; rotate_left 1; (focus (intro w hSw; (try dsimp only at hSw); go_simp <;> try (first | (with_reducible rfl) | (rw [if_neg (by omega)]) | (rw [if_pos (by omega)])))); try simp only [Act.put, List.setIfInBounds_toArray, List.set_cons_zero, List.set_cons_succ]); (refine wpAnyH_take (i := 1) (oi := ⟨some 22, _, _, _, _, _⟩) (v := ?_) rfl (by kernel_rfl) (by kernel_rfl) (by kernel_rfl) (fun _ _ _ h => h) (Or.inl ⟨by rfl, ?_⟩) (by assumption) ?_; rotate_left 1; (focus (intro w hSw; (try dsimp only at hSw); go_simp <;> try (first | (with_reducible rfl) | (rw [if_neg (by omega)]) | (rw [if_pos (by omega)])))); try simp only [Act.put, List.setIfInBounds_toArray, List.set_cons_zero, List.set_cons_succ]); (refine wpAnyH_take (i := 2) (oi := ⟨some 23, _, _, _, _, _⟩) (v := ?_) rfl (by kernel_rfl) (by kernel_rfl) (by kernel_rfl) (fun _ _ _ h => h) (Or.inl ⟨by rfl, ?_⟩) (by assumption) ?_; rotate_left 1; (focus (intro w hSw; (try dsimp only at hSw); go_simp <;> try (first | (with_reducible rfl) | (rw [if_neg (by omega)]) | (rw [if_pos (by omega)])))); try simp only [Act.put, List.setIfInBounds_toArray, List.set_cons_zero, List.set_cons_succ]); (refine wpAnyH_take (i := 4) (oi := ⟨some 25, _, _, _, _, _⟩) (v := ?_) rfl (by kernel_rfl) (by kernel_rfl) (by kernel_rfl) (fun _ _ _ h => h) (Or.inl ⟨by rfl, ?_⟩) (by assumption) ?_; rotate_left 1; (focus (intro w hSw; (try dsimp only at hSw); go_simp <;> try (first | (with_reducible rfl) | (rw [if_neg (by omega)]) | (rw [if_pos (by omega)])))); try simp only [Act.put, List.setIfInBounds_toArray, List.set_cons_zero, List.set_cons_succ]); (refine wpAnyH_take (i := 5) (oi := ⟨some 26, _, _, _, _, _⟩) (v := ?_) rfl (by kernel_rfl) (by kernel_rfl) (by kernel_rfl) (fun _ _ _ h => h) (Or.inl ⟨by rfl, ?_⟩) (by assumption) ?_; rotate_left 1; (focus (intro w hSw; (try dsimp only at hSw); go_simp <;> try (first | (with_reducible rfl) | (rw [if_neg (by omega)]) | (rw [if_pos (by omega)])))); try simp only [Act.put, List.setIfInBounds_toArray, List.set_cons_zero, List.set_cons_succ]); (refine wpAnyH_take (i := 6) (oi := ⟨some 27, _, _, _, _, _⟩) (v := ?_) rfl (by kernel_rfl) (by kernel_rfl) (by kernel_rfl) (fun _ _ _ h => h) (Or.inl ⟨by rfl, ?_⟩) (by assumption) ?_; rotate_left 1; (focus (intro w hSw; (try dsimp only at hSw); go_simp <;> try (first | (with_reducible rfl) | (rw [if_neg (by omega)]) | (rw [if_pos (by omega)])))); try simp only [Act.put, List.setIfInBounds_toArray, List.set_cons_zero, List.set_cons_succ]); (refine wpAnyH_take (i := 8) (oi := ⟨some 29, _, _, _, _, _⟩) (v := ?_) rfl (by kernel_rfl) (by kernel_rfl) (by kernel_rfl) (fun _ _ _ h => h) (Or.inl ⟨by rfl, ?_⟩) (by assumption) ?_; rotate_left 1; (focus (intro w hSw; (try dsimp only at hSw); go_simp <;> try (first | (with_reducible rfl) | (rw [if_neg (by omega)]) | (rw [if_pos (by omega)])))); try simp only [Act.put, List.setIfInBounds_toArray, List.set_cons_zero, List.set_cons_succ]); (refine wpAnyH_take (i := 9) (oi := ⟨some 30, _, _, _, _, _⟩) (v := ?_) rfl (by kernel_rfl) (by kernel_rfl) (by kernel_rfl) (fun _ _ _ h => h) (Or.inl ⟨by rfl, ?_⟩) (by assumption) ?_; rotate_left 1; (focus (intro w hSw; (try dsimp only at hSw); go_simp <;> try (first | (with_reducible rfl) | (rw [if_neg (by omega)]) | (rw [if_pos (by omega)])))); try simp only [Act.put, List.setIfInBounds_toArray, List.set_cons_zero, List.set_cons_succ]))
    refine wpAnyH_ready (rs := [3, 11]) (by kernel_rfl) (by simp) ?_
    refine AllReadyH.cons (o := ⟨some 24, _, _, _, _, _⟩) rfl (fun K hK => ?_) (AllReadyH.cons (o := ⟨some 7, _, _, _, _, _⟩) rfl (fun K hK => ?_) AllReadyH.nil)
    · go_simp
      refine (NA2.out _ (HE.out.below (by repeat (first | assumption | exact Below.refl _ _ | (refine Below.setCell ?_ (by first | omega | (simp; done) | (simp; omega)) _) | apply below_drewN | apply Below.drew | (refine Below.alloc ?_ (by first | omega | (simp; done) | (simp; omega)) _))))).mono ?_
      rintro e3 W3 ⟨rfl, b3⟩
      have E3 : Below (w.heap.size + 1) (w.alloc (.cells #[.int .i64 0, .int .i64 0, .int .i64 0, .int .i64 0] 36)) W3 := (by repeat (first | assumption | exact Below.refl _ _ | (refine Below.trans ?_ (b3.mono (by first | omega | (simp; done) | (simp; omega)))) | (refine Below.setCell ?_ (by first | omega | (simp; done) | (simp; omega)) _) | apply below_drewN | apply Below.drew | (refine Below.alloc ?_ (by first | omega | (simp; done) | (simp; omega)) _)))
      have s3 : W2.heap.size ≤ W3.heap.size := b3.size
      have ta3 := (b3.cell (p := ⟨bb, oo + 1, none⟩) hbb2).trans ta2
      have tb3 := (b3.cell (p := ⟨bb, oo + 3, none⟩) hbb2).trans tb2
      have X3 := zbD E3
      have zq3 := (zb4 E3).2.2.2.2.2.2.2.2
      have hbb3 : bb < W3.heap.size := by omega
      clear hHeld
      (refine hK.out _ _ ?_ (fun hHeld => ?_))
      · exact ⟨ta3, tb3⟩
      clear hK K
      refine wpAnyH_ready (rs := [7, 11]) (by kernel_rfl) (by simp) ?_
      refine AllReadyH.cons (o := ⟨some 28, _, _, _, _, _⟩) rfl (fun K hK => ?_) (AllReadyH.cons (o := ⟨some 7, _, _, _, _, _⟩) rfl (fun K hK => ?_) AllReadyH.nil)
      · go_simp
        refine (NB2.out _ (HE.out.below (by repeat (first | assumption | exact Below.refl _ _ | (refine Below.setCell ?_ (by first | omega | (simp; done) | (simp; omega)) _) | apply below_drewN | apply Below.drew | (refine Below.alloc ?_ (by first | omega | (simp; done) | (simp; omega)) _))))).mono ?_
        rintro e4 W4 ⟨rfl, b4⟩
        have E4 : Below (w.heap.size + 1) (w.alloc (.cells #[.int .i64 0, .int .i64 0, .int .i64 0, .int .i64 0] 36)) W4 := (by repeat (first | assumption | exact Below.refl _ _ | (refine Below.trans ?_ (b4.mono (by first | omega | (simp; done) | (simp; omega)))) | (refine Below.setCell ?_ (by first | omega | (simp; done) | (simp; omega)) _) | apply below_drewN | apply Below.drew | (refine Below.alloc ?_ (by first | omega | (simp; done) | (simp; omega)) _)))
        have s4 : W3.heap.size ≤ W4.heap.size := b4.size
        have ta4 := (b4.cell (p := ⟨bb, oo + 1, none⟩) hbb3).trans ta3
        have tb4 := (b4.cell (p := ⟨bb, oo + 3, none⟩) hbb3).trans tb3
        have X4 := zbD E4
        have zq4 := (zb4 E4).2.2.2.2.2.2.2.2
        have hbb4 : bb < W4.heap.size := by omega
        clear hHeld
        (refine hK.out _ _ ?_ (fun hHeld => ?_))
        · exact ⟨ta4, tb4⟩
        clear hK K
        ((refine wpAnyH_take (i := 10) (oi := ⟨some 31, _, _, _, _, _⟩) (v := ?_) rfl (by kernel_rfl) (by kernel_rfl) (by kernel_rfl) (fun _ _ _ h => h) (Or.inl ⟨by rfl, ?_⟩) (by assumption) ?_; rotate_left 1; (focus (intro w hSw; (try dsimp only at hSw); go_simp <;> try (first | (with_reducible rfl) | (rw [if_neg (by omega)]) | (rw [if_pos (by omega)])))); try simp only [Act.put, List.setIfInBounds_toArray, List.set_cons_zero, List.set_cons_succ]))
        refine wpAnyH_ready (rs := [11]) (by kernel_rfl) (by simp) ?_
        refine AllReadyH.cons (o := ⟨some 7, _, _, _, _, _⟩) rfl (fun K hK => ?_) AllReadyH.nil
        go_simp
        clear hHeld
        (refine hK.out _ _ ?_ (fun hHeld => ?_))
        · exact ⟨((Below.alloc (Below.refl W4.heap.size W4) (Nat.le_refl _) _).cell (p := ⟨bb, _, none⟩) hbb4).trans ta4, ((Below.alloc (Below.refl W4.heap.size W4) (Nat.le_refl _) _).cell (p := ⟨bb, _, none⟩) hbb4).trans tb4⟩
        clear hK K
        try simp only [Act.put, List.setIfInBounds_toArray, List.set_cons_zero, List.set_cons_succ]
        refine wpAnyH_ready (rs := [12]) (by kernel_rfl) (by simp) ?_
        refine AllReadyH.cons (o := ⟨none, _, _, _, _, _⟩) rfl (fun K hK => ?_) AllReadyH.nil
        go_simp
        have nb1 : ¬ bb = W2.heap.size := (by omega)
        have nb2 : ¬ bb = W3.heap.size := (by omega)
        have nb3 : ¬ bb = W4.heap.size := (by omega)
        have nc1 : ¬ W2.heap.size = bb := (by omega)
        have nc2 : ¬ W3.heap.size = bb := (by omega)
        have nc3 : ¬ W4.heap.size = bb := (by omega)
        clear hHeld
        (refine hK.out _ _ ?_ (fun hHeld => ?_))
        · exact ⟨(by first | (simp; done) | go_simp), (by first | (simp; done) | go_simp)⟩
        clear hK K
        refine wpAnyH_done (by kernel_rfl) ?_ _
        obtain ⟨WN, hWN⟩ : ∃ W, W = (W4.alloc (.cells #[.int .i64 va, .int .i64 vb, .int .i64 vc, .int .i64 vd] 36)) := ⟨_, rfl⟩
        obtain ⟨qn, hqn⟩ : ∃ q, q = W4.heap.size := ⟨_, rfl⟩
        have E5 : Below (w.heap.size + 1) (w.alloc (.cells #[.int .i64 0, .int .i64 0, .int .i64 0, .int .i64 0] 36)) WN := by rw [hWN]; exact E4.alloc (by omega) _
        have y0 : WN.cell? ⟨qn, 0, none⟩ = some (.int .i64 va) := by rw [hWN, hqn]; first | (simp; done) | go_simp
        have y1 : WN.cell? ⟨qn, 1, none⟩ = some (.int .i64 vb) := by rw [hWN, hqn]; first | (simp; done) | go_simp
        have y2 : WN.cell? ⟨qn, 2, none⟩ = some (.int .i64 vc) := by rw [hWN, hqn]; first | (simp; done) | go_simp
        have y3 : WN.cell? ⟨qn, 3, none⟩ = some (.int .i64 vd) := by rw [hWN, hqn]; first | (simp; done) | go_simp
        have sq : qn < WN.heap.size := by rw [hWN, hqn]; simp
        rw [← hqn]
        rw [← hWN]
        clear hWN hqn
        have YES := HYES.out
        have NO := HNO.out
        have X5 := zbD E5
        go_wp2_with fail
        refine (BT.out _ (HE.out.below X5).pow).mono ?_
        rintro e6 W6 ⟨rfl, b6⟩
        have E6 : Below (w.heap.size + 1) (w.alloc (.cells #[.int .i64 0, .int .i64 0, .int .i64 0, .int .i64 0] 36)) W6 := E5.trans (b6.mono (by have := E5.size; simp at this; omega))
        have y0' := (b6.cell (p := ⟨qn, 0, none⟩) sq).trans y0
        have y1' := (b6.cell (p := ⟨qn, 1, none⟩) sq).trans y1
        have y2' := (b6.cell (p := ⟨qn, 2, none⟩) sq).trans y2
        have y3' := (b6.cell (p := ⟨qn, 3, none⟩) sq).trans y3
        obtain ⟨z0, z1, z2, z3, f0, f1, f2, f3, zsL⟩ := zb4 E6
        have D6 := Lib.hid (zbD E6)
        clear b6 E5 X5
        by_cases hts : t = s
        · have hn := YES hts
          subst hn
          clear YES NO HRES
          subst hts
          go_wp2
          have PZ := four_back (w := W6) (r := w.heap.size) (v0 := .int .i64 va) (v1 := .int .i64 vb) (v2 := .int .i64 vc) (v3 := .int .i64 vd) z0 z1 z2 z3
          have DZ : Below w.heap.size w ((((W6.setCell ⟨w.heap.size, 0, none⟩ (.int .i64 va)).setCell ⟨w.heap.size, 1, none⟩ (.int .i64 vb)).setCell ⟨w.heap.size, 2, none⟩ (.int .i64 vc)).setCell ⟨w.heap.size, 3, none⟩ (.int .i64 vd)) := ((((D6.out).setCell (p := ⟨w.heap.size, 0, none⟩) (Nat.le_refl _) _).setCell (p := ⟨w.heap.size, 1, none⟩) (Nat.le_refl _) _).setCell (p := ⟨w.heap.size, 2, none⟩) (Nat.le_refl _) _).setCell (p := ⟨w.heap.size, 3, none⟩) (Nat.le_refl _) _
          generalize ((((W6.setCell ⟨w.heap.size, 0, none⟩ (.int .i64 va)).setCell ⟨w.heap.size, 1, none⟩ (.int .i64 vb)).setCell ⟨w.heap.size, 2, none⟩ (.int .i64 vc)).setCell ⟨w.heap.size, 3, none⟩ (.int .i64 vd)) = Zw at PZ DZ ⊢
          obtain ⟨p0', p1', p2', p3'⟩ := PZ
          exact bodyPost_ret (v := .tuple #[.agg #[.int .i64 va, .int .i64 vb, .int .i64 vc, .int .i64 vd], .bool true]) (by simp [results, Tryd.results22, go_sem, p0', p1', p2', p3']) rfl ⟨rfl, DZ⟩
        · have hn := NO hts
          subst hn
          have g1 : (t.toList == s.toList) = false := by have := strF5 hts; rwa [← ByteArray.toList_eq] at this
          clear YES NO hts HRES
          go_wp2
          have PZ := four_back (w := W6) (r := w.heap.size) (v0 := .int .i64 0) (v1 := .int .i64 0) (v2 := .int .i64 0) (v3 := .int .i64 0) z0 z1 z2 z3
          have DZ : Below w.heap.size w ((((W6.setCell ⟨w.heap.size, 0, none⟩ (.int .i64 0)).setCell ⟨w.heap.size, 1, none⟩ (.int .i64 0)).setCell ⟨w.heap.size, 2, none⟩ (.int .i64 0)).setCell ⟨w.heap.size, 3, none⟩ (.int .i64 0)) := ((((D6.out).setCell (p := ⟨w.heap.size, 0, none⟩) (Nat.le_refl _) _).setCell (p := ⟨w.heap.size, 1, none⟩) (Nat.le_refl _) _).setCell (p := ⟨w.heap.size, 2, none⟩) (Nat.le_refl _) _).setCell (p := ⟨w.heap.size, 3, none⟩) (Nat.le_refl _) _
          generalize ((((W6.setCell ⟨w.heap.size, 0, none⟩ (.int .i64 0)).setCell ⟨w.heap.size, 1, none⟩ (.int .i64 0)).setCell ⟨w.heap.size, 2, none⟩ (.int .i64 0)).setCell ⟨w.heap.size, 3, none⟩ (.int .i64 0)) = Zw at PZ DZ ⊢
          obtain ⟨p0', p1', p2', p3'⟩ := PZ
          exact bodyPost_ret (v := .tuple #[.agg #[.int .i64 0, .int .i64 0, .int .i64 0, .int .i64 0], .bool false]) (by simp [results, Tryd.results22, go_sem, p0', p1', p2', p3']) rfl ⟨rfl, DZ⟩
      · go_simp
        clear hHeld
        (refine hK.out _ _ ?_ (fun hHeld => ?_))
        · exact ⟨((Below.alloc (Below.refl W3.heap.size W3) (Nat.le_refl _) _).cell (p := ⟨bb, _, none⟩) hbb3).trans ta3, ((Below.alloc (Below.refl W3.heap.size W3) (Nat.le_refl _) _).cell (p := ⟨bb, _, none⟩) hbb3).trans tb3⟩
        clear hK K
        try simp only [Act.put, List.setIfInBounds_toArray, List.set_cons_zero, List.set_cons_succ]
        refine wpAnyH_ready (rs := [7]) (by kernel_rfl) (by simp) ?_
        refine AllReadyH.cons (o := ⟨some 28, _, _, _, _, _⟩) rfl (fun K hK => ?_) AllReadyH.nil
        go_simp
        refine (NB2.out _ (HE.out.below (by repeat (first | assumption | exact Below.refl _ _ | (refine Below.setCell ?_ (by first | omega | (simp; done) | (simp; omega)) _) | apply below_drewN | apply Below.drew | (refine Below.alloc ?_ (by first | omega | (simp; done) | (simp; omega)) _))))).mono ?_
        rintro e4 W4 ⟨rfl, b4⟩
        have E4 : Below (w.heap.size + 1) (w.alloc (.cells #[.int .i64 0, .int .i64 0, .int .i64 0, .int .i64 0] 36)) W4 := (by repeat (first | assumption | exact Below.refl _ _ | (refine Below.trans ?_ (b4.mono (by first | omega | (simp; done) | (simp; omega)))) | (refine Below.setCell ?_ (by first | omega | (simp; done) | (simp; omega)) _) | apply below_drewN | apply Below.drew | (refine Below.alloc ?_ (by first | omega | (simp; done) | (simp; omega)) _)))
        have s4 : W3.heap.size < W4.heap.size := (by have := b4.size; simp at this; omega)
        have ta4 := (b4.cell (p := ⟨bb, oo + 1, none⟩) (by simp; omega)).trans (((Below.alloc (Below.refl W3.heap.size W3) (Nat.le_refl _) _).cell (p := ⟨bb, oo + 1, none⟩) hbb3).trans ta3)
        have tb4 := (b4.cell (p := ⟨bb, oo + 3, none⟩) (by simp; omega)).trans (((Below.alloc (Below.refl W3.heap.size W3) (Nat.le_refl _) _).cell (p := ⟨bb, oo + 3, none⟩) hbb3).trans tb3)
        have k40 : W4.cell? ⟨W3.heap.size, 0, none⟩ = some (.int .i64 0) := (b4.cell (p := ⟨W3.heap.size, 0, none⟩) (by simp)).trans (by first | (simp; done) | go_simp)
        have l40 : W4.frozen? ⟨W3.heap.size, 0, none⟩ = false := (b4.frozen (p := ⟨W3.heap.size, 0, none⟩) (by simp)).trans (by first | (simp; done) | go_simp)
        have k41 : W4.cell? ⟨W3.heap.size, 1, none⟩ = some (.int .i64 0) := (b4.cell (p := ⟨W3.heap.size, 1, none⟩) (by simp)).trans (by first | (simp; done) | go_simp)
        have l41 : W4.frozen? ⟨W3.heap.size, 1, none⟩ = false := (b4.frozen (p := ⟨W3.heap.size, 1, none⟩) (by simp)).trans (by first | (simp; done) | go_simp)
        have k42 : W4.cell? ⟨W3.heap.size, 2, none⟩ = some (.int .i64 0) := (b4.cell (p := ⟨W3.heap.size, 2, none⟩) (by simp)).trans (by first | (simp; done) | go_simp)
        have l42 : W4.frozen? ⟨W3.heap.size, 2, none⟩ = false := (b4.frozen (p := ⟨W3.heap.size, 2, none⟩) (by simp)).trans (by first | (simp; done) | go_simp)
        have k43 : W4.cell? ⟨W3.heap.size, 3, none⟩ = some (.int .i64 0) := (b4.cell (p := ⟨W3.heap.size, 3, none⟩) (by simp)).trans (by first | (simp; done) | go_simp)
        have l43 : W4.frozen? ⟨W3.heap.size, 3, none⟩ = false := (b4.frozen (p := ⟨W3.heap.size, 3, none⟩) (by simp)).trans (by first | (simp; done) | go_simp)
        have X4 := zbD E4
        have zq4 := (zb4 E4).2.2.2.2.2.2.2.2
        have hbb4 : bb < W4.heap.size := by omega
        clear hHeld
        (refine hK.out _ _ ?_ (fun hHeld => ?_))
        · exact ⟨ta4, tb4⟩
        clear hK K
        ((refine wpAnyH_take (i := 10) (oi := ⟨some 31, _, _, _, _, _⟩) (v := ?_) rfl (by kernel_rfl) (by kernel_rfl) (by kernel_rfl) (fun _ _ _ h => h) (Or.inl ⟨by rfl, ?_⟩) (by assumption) ?_; rotate_left 1; (focus (intro w hSw; (try dsimp only at hSw); go_simp <;> try (first | (with_reducible rfl) | (rw [if_neg (by omega)]) | (rw [if_pos (by omega)])))); try simp only [Act.put, List.setIfInBounds_toArray, List.set_cons_zero, List.set_cons_succ]))
        refine wpAnyH_ready (rs := [12]) (by kernel_rfl) (by simp) ?_
        refine AllReadyH.cons (o := ⟨none, _, _, _, _, _⟩) rfl (fun K hK => ?_) AllReadyH.nil
        go_simp
        have nb1 : ¬ bb = W2.heap.size := (by omega)
        have nb2 : ¬ bb = W3.heap.size := (by omega)
        have nb3 : ¬ bb = W4.heap.size := (by omega)
        have nc1 : ¬ W2.heap.size = bb := (by omega)
        have nc2 : ¬ W3.heap.size = bb := (by omega)
        have nc3 : ¬ W4.heap.size = bb := (by omega)
        clear hHeld
        (refine hK.out _ _ ?_ (fun hHeld => ?_))
        · exact ⟨(by first | (simp; done) | go_simp), (by first | (simp; done) | go_simp)⟩
        clear hK K
        refine wpAnyH_done (by kernel_rfl) ?_ _
        obtain ⟨WN, hWN⟩ : ∃ W, W = ((((W4.setCell ⟨W3.heap.size, 0, none⟩ (.int .i64 va)).setCell ⟨W3.heap.size, 1, none⟩ (.int .i64 vb)).setCell ⟨W3.heap.size, 2, none⟩ (.int .i64 vc)).setCell ⟨W3.heap.size, 3, none⟩ (.int .i64 vd)) := ⟨_, rfl⟩
        obtain ⟨qn, hqn⟩ : ∃ q, q = W3.heap.size := ⟨_, rfl⟩
        have E5 : Below (w.heap.size + 1) (w.alloc (.cells #[.int .i64 0, .int .i64 0, .int .i64 0, .int .i64 0] 36)) WN := by rw [hWN]; exact (((E4.setCell (by show w.heap.size + 1 ≤ W3.heap.size; omega) _).setCell (by show w.heap.size + 1 ≤ W3.heap.size; omega) _).setCell (by show w.heap.size + 1 ≤ W3.heap.size; omega) _).setCell (by show w.heap.size + 1 ≤ W3.heap.size; omega) _
        obtain ⟨y0, y1, y2, y3⟩ := four_back (v0 := .int .i64 va) (v1 := .int .i64 vb) (v2 := .int .i64 vc) (v3 := .int .i64 vd) k40 k41 k42 k43
        rw [← hqn] at y0 y1 y2 y3 hWN
        rw [← hWN] at y0 y1 y2 y3
        have sq : qn < WN.heap.size := by rw [hWN, hqn]; simp [World.setCell]; omega
        rw [← hqn]
        rw [← hWN]
        clear hWN hqn
        have YES := HYES.out
        have NO := HNO.out
        have X5 := zbD E5
        go_wp2_with fail
        refine (BT.out _ (HE.out.below X5).pow).mono ?_
        rintro e6 W6 ⟨rfl, b6⟩
        have E6 : Below (w.heap.size + 1) (w.alloc (.cells #[.int .i64 0, .int .i64 0, .int .i64 0, .int .i64 0] 36)) W6 := E5.trans (b6.mono (by have := E5.size; simp at this; omega))
        have y0' := (b6.cell (p := ⟨qn, 0, none⟩) sq).trans y0
        have y1' := (b6.cell (p := ⟨qn, 1, none⟩) sq).trans y1
        have y2' := (b6.cell (p := ⟨qn, 2, none⟩) sq).trans y2
        have y3' := (b6.cell (p := ⟨qn, 3, none⟩) sq).trans y3
        obtain ⟨z0, z1, z2, z3, f0, f1, f2, f3, zsL⟩ := zb4 E6
        have D6 := Lib.hid (zbD E6)
        clear b6 E5 X5
        by_cases hts : t = s
        · have hn := YES hts
          subst hn
          clear YES NO HRES
          subst hts
          go_wp2
          have PZ := four_back (w := W6) (r := w.heap.size) (v0 := .int .i64 va) (v1 := .int .i64 vb) (v2 := .int .i64 vc) (v3 := .int .i64 vd) z0 z1 z2 z3
          have DZ : Below w.heap.size w ((((W6.setCell ⟨w.heap.size, 0, none⟩ (.int .i64 va)).setCell ⟨w.heap.size, 1, none⟩ (.int .i64 vb)).setCell ⟨w.heap.size, 2, none⟩ (.int .i64 vc)).setCell ⟨w.heap.size, 3, none⟩ (.int .i64 vd)) := ((((D6.out).setCell (p := ⟨w.heap.size, 0, none⟩) (Nat.le_refl _) _).setCell (p := ⟨w.heap.size, 1, none⟩) (Nat.le_refl _) _).setCell (p := ⟨w.heap.size, 2, none⟩) (Nat.le_refl _) _).setCell (p := ⟨w.heap.size, 3, none⟩) (Nat.le_refl _) _
          generalize ((((W6.setCell ⟨w.heap.size, 0, none⟩ (.int .i64 va)).setCell ⟨w.heap.size, 1, none⟩ (.int .i64 vb)).setCell ⟨w.heap.size, 2, none⟩ (.int .i64 vc)).setCell ⟨w.heap.size, 3, none⟩ (.int .i64 vd)) = Zw at PZ DZ ⊢
          obtain ⟨p0', p1', p2', p3'⟩ := PZ
          exact bodyPost_ret (v := .tuple #[.agg #[.int .i64 va, .int .i64 vb, .int .i64 vc, .int .i64 vd], .bool true]) (by simp [results, Tryd.results22, go_sem, p0', p1', p2', p3']) rfl ⟨rfl, DZ⟩
        · have hn := NO hts
          subst hn
          have g1 : (t.toList == s.toList) = false := by have := strF5 hts; rwa [← ByteArray.toList_eq] at this
          clear YES NO hts HRES
          go_wp2
          have PZ := four_back (w := W6) (r := w.heap.size) (v0 := .int .i64 0) (v1 := .int .i64 0) (v2 := .int .i64 0) (v3 := .int .i64 0) z0 z1 z2 z3
          have DZ : Below w.heap.size w ((((W6.setCell ⟨w.heap.size, 0, none⟩ (.int .i64 0)).setCell ⟨w.heap.size, 1, none⟩ (.int .i64 0)).setCell ⟨w.heap.size, 2, none⟩ (.int .i64 0)).setCell ⟨w.heap.size, 3, none⟩ (.int .i64 0)) := ((((D6.out).setCell (p := ⟨w.heap.size, 0, none⟩) (Nat.le_refl _) _).setCell (p := ⟨w.heap.size, 1, none⟩) (Nat.le_refl _) _).setCell (p := ⟨w.heap.size, 2, none⟩) (Nat.le_refl _) _).setCell (p := ⟨w.heap.size, 3, none⟩) (Nat.le_refl _) _
          generalize ((((W6.setCell ⟨w.heap.size, 0, none⟩ (.int .i64 0)).setCell ⟨w.heap.size, 1, none⟩ (.int .i64 0)).setCell ⟨w.heap.size, 2, none⟩ (.int .i64 0)).setCell ⟨w.heap.size, 3, none⟩ (.int .i64 0)) = Zw at PZ DZ ⊢
          obtain ⟨p0', p1', p2', p3'⟩ := PZ
          exact bodyPost_ret (v := .tuple #[.agg #[.int .i64 0, .int .i64 0, .int .i64 0, .int .i64 0], .bool false]) (by simp [results, Tryd.results22, go_sem, p0', p1', p2', p3']) rfl ⟨rfl, DZ⟩
    · go_simp
      clear hHeld
      (refine hK.out _ _ ?_ (fun hHeld => ?_))
      · exact ⟨((AL _).cell (p := ⟨bb, _, none⟩) hbb2).trans ta2, ((AL _).cell (p := ⟨bb, _, none⟩) hbb2).trans tb2⟩
      clear hK K
      try simp only [Act.put, List.setIfInBounds_toArray, List.set_cons_zero, List.set_cons_succ]
      refine wpAnyH_ready (rs := [3]) (by kernel_rfl) (by simp) ?_
      refine AllReadyH.cons (o := ⟨some 24, _, _, _, _, _⟩) rfl (fun K hK => ?_) AllReadyH.nil
      go_simp
      refine (NA2.out _ (HE.out.below (by repeat (first | assumption | exact Below.refl _ _ | (refine Below.setCell ?_ (by first | omega | (simp; done) | (simp; omega)) _) | apply below_drewN | apply Below.drew | (refine Below.alloc ?_ (by first | omega | (simp; done) | (simp; omega)) _))))).mono ?_
      rintro e3 W3 ⟨rfl, b3⟩
      have E3 : Below (w.heap.size + 1) (w.alloc (.cells #[.int .i64 0, .int .i64 0, .int .i64 0, .int .i64 0] 36)) W3 := (by repeat (first | assumption | exact Below.refl _ _ | (refine Below.trans ?_ (b3.mono (by first | omega | (simp; done) | (simp; omega)))) | (refine Below.setCell ?_ (by first | omega | (simp; done) | (simp; omega)) _) | apply below_drewN | apply Below.drew | (refine Below.alloc ?_ (by first | omega | (simp; done) | (simp; omega)) _)))
      have s3 : W2.heap.size < W3.heap.size := (by have := b3.size; simp at this; omega)
      have ta3 := (b3.cell (p := ⟨bb, oo + 1, none⟩) (by simp; omega)).trans (((AL _).cell (p := ⟨bb, oo + 1, none⟩) hbb2).trans ta2)
      have tb3 := (b3.cell (p := ⟨bb, oo + 3, none⟩) (by simp; omega)).trans (((AL _).cell (p := ⟨bb, oo + 3, none⟩) hbb2).trans tb2)
      have k30 : W3.cell? ⟨W2.heap.size, 0, none⟩ = some (.int .i64 0) := (b3.cell (p := ⟨W2.heap.size, 0, none⟩) (by simp)).trans (by first | (simp; done) | go_simp)
      have l30 : W3.frozen? ⟨W2.heap.size, 0, none⟩ = false := (b3.frozen (p := ⟨W2.heap.size, 0, none⟩) (by simp)).trans (by first | (simp; done) | go_simp)
      have k31 : W3.cell? ⟨W2.heap.size, 1, none⟩ = some (.int .i64 0) := (b3.cell (p := ⟨W2.heap.size, 1, none⟩) (by simp)).trans (by first | (simp; done) | go_simp)
      have l31 : W3.frozen? ⟨W2.heap.size, 1, none⟩ = false := (b3.frozen (p := ⟨W2.heap.size, 1, none⟩) (by simp)).trans (by first | (simp; done) | go_simp)
      have k32 : W3.cell? ⟨W2.heap.size, 2, none⟩ = some (.int .i64 0) := (b3.cell (p := ⟨W2.heap.size, 2, none⟩) (by simp)).trans (by first | (simp; done) | go_simp)
      have l32 : W3.frozen? ⟨W2.heap.size, 2, none⟩ = false := (b3.frozen (p := ⟨W2.heap.size, 2, none⟩) (by simp)).trans (by first | (simp; done) | go_simp)
      have k33 : W3.cell? ⟨W2.heap.size, 3, none⟩ = some (.int .i64 0) := (b3.cell (p := ⟨W2.heap.size, 3, none⟩) (by simp)).trans (by first | (simp; done) | go_simp)
      have l33 : W3.frozen? ⟨W2.heap.size, 3, none⟩ = false := (b3.frozen (p := ⟨W2.heap.size, 3, none⟩) (by simp)).trans (by first | (simp; done) | go_simp)
      have X3 := zbD E3
      have zq3 := (zb4 E3).2.2.2.2.2.2.2.2
      have hbb3 : bb < W3.heap.size := by omega
      clear hHeld
      (refine hK.out _ _ ?_ (fun hHeld => ?_))
      · exact ⟨ta3, tb3⟩
      clear hK K
      refine wpAnyH_ready (rs := [7]) (by kernel_rfl) (by simp) ?_
      refine AllReadyH.cons (o := ⟨some 28, _, _, _, _, _⟩) rfl (fun K hK => ?_) AllReadyH.nil
      go_simp
      refine (NB2.out _ (HE.out.below (by repeat (first | assumption | exact Below.refl _ _ | (refine Below.setCell ?_ (by first | omega | (simp; done) | (simp; omega)) _) | apply below_drewN | apply Below.drew | (refine Below.alloc ?_ (by first | omega | (simp; done) | (simp; omega)) _))))).mono ?_
      rintro e4 W4 ⟨rfl, b4⟩
      have E4 : Below (w.heap.size + 1) (w.alloc (.cells #[.int .i64 0, .int .i64 0, .int .i64 0, .int .i64 0] 36)) W4 := (by repeat (first | assumption | exact Below.refl _ _ | (refine Below.trans ?_ (b4.mono (by first | omega | (simp; done) | (simp; omega)))) | (refine Below.setCell ?_ (by first | omega | (simp; done) | (simp; omega)) _) | apply below_drewN | apply Below.drew | (refine Below.alloc ?_ (by first | omega | (simp; done) | (simp; omega)) _)))
      have s4 : W3.heap.size ≤ W4.heap.size := b4.size
      have ta4 := (b4.cell (p := ⟨bb, oo + 1, none⟩) hbb3).trans ta3
      have tb4 := (b4.cell (p := ⟨bb, oo + 3, none⟩) hbb3).trans tb3
      have k40 := (b4.cell (p := ⟨W2.heap.size, 0, none⟩) s3).trans k30
      have l40 := (b4.frozen (p := ⟨W2.heap.size, 0, none⟩) s3).trans l30
      have k41 := (b4.cell (p := ⟨W2.heap.size, 1, none⟩) s3).trans k31
      have l41 := (b4.frozen (p := ⟨W2.heap.size, 1, none⟩) s3).trans l31
      have k42 := (b4.cell (p := ⟨W2.heap.size, 2, none⟩) s3).trans k32
      have l42 := (b4.frozen (p := ⟨W2.heap.size, 2, none⟩) s3).trans l32
      have k43 := (b4.cell (p := ⟨W2.heap.size, 3, none⟩) s3).trans k33
      have l43 := (b4.frozen (p := ⟨W2.heap.size, 3, none⟩) s3).trans l33
      have X4 := zbD E4
      have zq4 := (zb4 E4).2.2.2.2.2.2.2.2
      have hbb4 : bb < W4.heap.size := by omega
      clear hHeld
      (refine hK.out _ _ ?_ (fun hHeld => ?_))
      · exact ⟨ta4, tb4⟩
      clear hK K
      ((refine wpAnyH_take (i := 10) (oi := ⟨some 31, _, _, _, _, _⟩) (v := ?_) rfl (by kernel_rfl) (by kernel_rfl) (by kernel_rfl) (fun _ _ _ h => h) (Or.inl ⟨by rfl, ?_⟩) (by assumption) ?_; rotate_left 1; (focus (intro w hSw; (try dsimp only at hSw); go_simp <;> try (first | (with_reducible rfl) | (rw [if_neg (by omega)]) | (rw [if_pos (by omega)])))); try simp only [Act.put, List.setIfInBounds_toArray, List.set_cons_zero, List.set_cons_succ]))
      refine wpAnyH_ready (rs := [12]) (by kernel_rfl) (by simp) ?_
      refine AllReadyH.cons (o := ⟨none, _, _, _, _, _⟩) rfl (fun K hK => ?_) AllReadyH.nil
      go_simp
      have nb1 : ¬ bb = W2.heap.size := (by omega)
      have nb2 : ¬ bb = W3.heap.size := (by omega)
      have nb3 : ¬ bb = W4.heap.size := (by omega)
      have nc1 : ¬ W2.heap.size = bb := (by omega)
      have nc2 : ¬ W3.heap.size = bb := (by omega)
      have nc3 : ¬ W4.heap.size = bb := (by omega)
      clear hHeld
      (refine hK.out _ _ ?_ (fun hHeld => ?_))
      · exact ⟨(by first | (simp; done) | go_simp), (by first | (simp; done) | go_simp)⟩
      clear hK K
      refine wpAnyH_done (by kernel_rfl) ?_ _
      obtain ⟨WN, hWN⟩ : ∃ W, W = ((((W4.setCell ⟨W2.heap.size, 0, none⟩ (.int .i64 va)).setCell ⟨W2.heap.size, 1, none⟩ (.int .i64 vb)).setCell ⟨W2.heap.size, 2, none⟩ (.int .i64 vc)).setCell ⟨W2.heap.size, 3, none⟩ (.int .i64 vd)) := ⟨_, rfl⟩
      obtain ⟨qn, hqn⟩ : ∃ q, q = W2.heap.size := ⟨_, rfl⟩
      have E5 : Below (w.heap.size + 1) (w.alloc (.cells #[.int .i64 0, .int .i64 0, .int .i64 0, .int .i64 0] 36)) WN := by rw [hWN]; exact (((E4.setCell (by show w.heap.size + 1 ≤ W2.heap.size; omega) _).setCell (by show w.heap.size + 1 ≤ W2.heap.size; omega) _).setCell (by show w.heap.size + 1 ≤ W2.heap.size; omega) _).setCell (by show w.heap.size + 1 ≤ W2.heap.size; omega) _
      obtain ⟨y0, y1, y2, y3⟩ := four_back (v0 := .int .i64 va) (v1 := .int .i64 vb) (v2 := .int .i64 vc) (v3 := .int .i64 vd) k40 k41 k42 k43
      rw [← hqn] at y0 y1 y2 y3 hWN
      rw [← hWN] at y0 y1 y2 y3
      have sq : qn < WN.heap.size := by rw [hWN, hqn]; simp [World.setCell]; omega
      rw [← hqn]
      rw [← hWN]
      clear hWN hqn
      have YES := HYES.out
      have NO := HNO.out
      have X5 := zbD E5
      go_wp2_with fail
      refine (BT.out _ (HE.out.below X5).pow).mono ?_
      rintro e6 W6 ⟨rfl, b6⟩
      have E6 : Below (w.heap.size + 1) (w.alloc (.cells #[.int .i64 0, .int .i64 0, .int .i64 0, .int .i64 0] 36)) W6 := E5.trans (b6.mono (by have := E5.size; simp at this; omega))
      have y0' := (b6.cell (p := ⟨qn, 0, none⟩) sq).trans y0
      have y1' := (b6.cell (p := ⟨qn, 1, none⟩) sq).trans y1
      have y2' := (b6.cell (p := ⟨qn, 2, none⟩) sq).trans y2
      have y3' := (b6.cell (p := ⟨qn, 3, none⟩) sq).trans y3
      obtain ⟨z0, z1, z2, z3, f0, f1, f2, f3, zsL⟩ := zb4 E6
      have D6 := Lib.hid (zbD E6)
      clear b6 E5 X5
      by_cases hts : t = s
      · have hn := YES hts
        subst hn
        clear YES NO HRES
        subst hts
        go_wp2
        have PZ := four_back (w := W6) (r := w.heap.size) (v0 := .int .i64 va) (v1 := .int .i64 vb) (v2 := .int .i64 vc) (v3 := .int .i64 vd) z0 z1 z2 z3
        have DZ : Below w.heap.size w ((((W6.setCell ⟨w.heap.size, 0, none⟩ (.int .i64 va)).setCell ⟨w.heap.size, 1, none⟩ (.int .i64 vb)).setCell ⟨w.heap.size, 2, none⟩ (.int .i64 vc)).setCell ⟨w.heap.size, 3, none⟩ (.int .i64 vd)) := ((((D6.out).setCell (p := ⟨w.heap.size, 0, none⟩) (Nat.le_refl _) _).setCell (p := ⟨w.heap.size, 1, none⟩) (Nat.le_refl _) _).setCell (p := ⟨w.heap.size, 2, none⟩) (Nat.le_refl _) _).setCell (p := ⟨w.heap.size, 3, none⟩) (Nat.le_refl _) _
        generalize ((((W6.setCell ⟨w.heap.size, 0, none⟩ (.int .i64 va)).setCell ⟨w.heap.size, 1, none⟩ (.int .i64 vb)).setCell ⟨w.heap.size, 2, none⟩ (.int .i64 vc)).setCell ⟨w.heap.size, 3, none⟩ (.int .i64 vd)) = Zw at PZ DZ ⊢
        obtain ⟨p0', p1', p2', p3'⟩ := PZ
        exact bodyPost_ret (v := .tuple #[.agg #[.int .i64 va, .int .i64 vb, .int .i64 vc, .int .i64 vd], .bool true]) (by simp [results, Tryd.results22, go_sem, p0', p1', p2', p3']) rfl ⟨rfl, DZ⟩
      · have hn := NO hts
        subst hn
        have g1 : (t.toList == s.toList) = false := by have := strF5 hts; rwa [← ByteArray.toList_eq] at this
        clear YES NO hts HRES
        go_wp2
        have PZ := four_back (w := W6) (r := w.heap.size) (v0 := .int .i64 0) (v1 := .int .i64 0) (v2 := .int .i64 0) (v3 := .int .i64 0) z0 z1 z2 z3
        have DZ : Below w.heap.size w ((((W6.setCell ⟨w.heap.size, 0, none⟩ (.int .i64 0)).setCell ⟨w.heap.size, 1, none⟩ (.int .i64 0)).setCell ⟨w.heap.size, 2, none⟩ (.int .i64 0)).setCell ⟨w.heap.size, 3, none⟩ (.int .i64 0)) := ((((D6.out).setCell (p := ⟨w.heap.size, 0, none⟩) (Nat.le_refl _) _).setCell (p := ⟨w.heap.size, 1, none⟩) (Nat.le_refl _) _).setCell (p := ⟨w.heap.size, 2, none⟩) (Nat.le_refl _) _).setCell (p := ⟨w.heap.size, 3, none⟩) (Nat.le_refl _) _
        generalize ((((W6.setCell ⟨w.heap.size, 0, none⟩ (.int .i64 0)).setCell ⟨w.heap.size, 1, none⟩ (.int .i64 0)).setCell ⟨w.heap.size, 2, none⟩ (.int .i64 0)).setCell ⟨w.heap.size, 3, none⟩ (.int .i64 0)) = Zw at PZ DZ ⊢
        obtain ⟨p0', p1', p2', p3'⟩ := PZ
        exact bodyPost_ret (v := .tuple #[.agg #[.int .i64 0, .int .i64 0, .int .i64 0, .int .i64 0], .bool false]) (by simp [results, Tryd.results22, go_sem, p0', p1', p2', p3']) rfl ⟨rfl, DZ⟩
  · have c5' : ((P.length : Int) != 6) = true := by simp; omega
    have hn : res = none := by
      cases hr : res with
      | none => rfl
      | some n =>
        obtain ⟨a, b, c, d⟩ := n
        obtain ⟨h1, h2⟩ := (HRES.out a b c d).1 hr
        exact absurd (by rw [HP.out, ml_words h1 h2]; rfl) c5
    obtain ⟨z0, z1, z2, z3, f0, f1, f2, f3, zsL⟩ := zb4 E1
    have D1 := Lib.hid X1
    clear HRES
    subst hn
    go_wp2_with fail
    have PZ := four_back (w := W1) (r := w.heap.size) (v0 := .int .i64 0) (v1 := .int .i64 0) (v2 := .int .i64 0) (v3 := .int .i64 0) z0 z1 z2 z3
    have DZ : Below w.heap.size w ((((W1.setCell ⟨w.heap.size, 0, none⟩ (.int .i64 0)).setCell ⟨w.heap.size, 1, none⟩ (.int .i64 0)).setCell ⟨w.heap.size, 2, none⟩ (.int .i64 0)).setCell ⟨w.heap.size, 3, none⟩ (.int .i64 0)) := ((((D1.out).setCell (p := ⟨w.heap.size, 0, none⟩) (Nat.le_refl _) _).setCell (p := ⟨w.heap.size, 1, none⟩) (Nat.le_refl _) _).setCell (p := ⟨w.heap.size, 2, none⟩) (Nat.le_refl _) _).setCell (p := ⟨w.heap.size, 3, none⟩) (Nat.le_refl _) _
    generalize ((((W1.setCell ⟨w.heap.size, 0, none⟩ (.int .i64 0)).setCell ⟨w.heap.size, 1, none⟩ (.int .i64 0)).setCell ⟨w.heap.size, 2, none⟩ (.int .i64 0)).setCell ⟨w.heap.size, 3, none⟩ (.int .i64 0)) = Zw at PZ DZ ⊢
    obtain ⟨p0', p1', p2', p3'⟩ := PZ
    exact bodyPost_ret (v := .tuple #[.agg #[.int .i64 0, .int .i64 0, .int .i64 0, .int .i64 0], .bool false]) (by simp [results, Tryd.results22, go_sem, p0', p1', p2', p3']) rfl ⟨rfl, DZ⟩

end Go.Proofs.YticbnahndidplaaDoor
