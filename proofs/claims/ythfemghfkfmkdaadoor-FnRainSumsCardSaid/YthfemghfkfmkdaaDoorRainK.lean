/- ReadRain of the program. -/
import Derived.Test.YthfemghfkfmkdaaDoorRainL
import Derived.Test.YthfemghfkfmkdaaDoorNumI
import Derived.Test.YthfemghfkfmkdaaDoorWFnExactReadDecimal
import Derived.Laws.StructEq
import Derived.Test.YthfemghfkfmkdaaDoorRNum
namespace Go.Proofs.YthfemghfkfmkdaaDoor
open Go.RowKit

theorem dec_of (u : Nat) (h : u ≤ 1000000000) : DecOf (Lib.decDigits u) (u : Int) := by
  have e : Lib.itoa (u : Int) = Lib.decDigits u := by
    unfold Lib.itoa
    rw [if_neg (by omega)]
    rfl
  refine ⟨by rw [e], ?_⟩
  rw [strip_dec]
  have := dec_len 9 u (by omega)
  omega
theorem trim_sz (l t : List UInt8) : (Lib.trimSuffix l t).length ≤ l.length := by
  unfold Lib.trimSuffix
  split
  · rw [List.length_take]; omega
  · omega
theorem cut_sz (l : List UInt8) : (Lib.cut l [46]).1.length ≤ l.length ∧ (Lib.cut l [46]).2.1.length ≤ l.length := by
  rcases first_or 46 l with ⟨x, y, rfl, hx⟩ | hn
  · rw [cut_app 46 x y hx]; simp; omega
  · rw [cut_no 46 l hn]; simp

set_option maxHeartbeats 800000 in
/-- readPair at one text: what is before the mark and behind it, read. -/
theorem pairR_t (BD A B : ByteArray) (va vb : Int) (ba bb cu : Bool) (w : World)
    (hc : Calls Tryd.prog 29 #[.string BD, .string ⟨#[46]⟩] w fun e w' => e = .returned (.tuple #[.string A, .string B, .bool cu]) ∧ ∃ n, w' = w.drewN n)
    (na : ∀ W : World, NumEnv W → Calls Tryd.prog 36 #[.string A] W fun e w' => e = .returned (.tuple #[.int .i64 va, .bool ba]) ∧ Below W.heap.size W w')
    (nb : ∀ W : World, NumEnv W → Calls Tryd.prog 36 #[.string B] W fun e w' => e = .returned (.tuple #[.int .i64 vb, .bool bb]) ∧ Below W.heap.size W w') (env : NumEnv w) :
    Calls Tryd.prog 20 #[.string BD, .string ⟨#[46]⟩] w fun e w' => e = .returned (.tuple #[.int .i64 va, .int .i64 vb]) ∧ Below w.heap.size w w' := by
  have HE := Lib.hid env
  have HC := Lib.hid hc
  have NA := Lib.hid (rnum_all na)
  have NB := Lib.hid (rnum_all nb)
  clear env hc na nb
  go_enter Tryd.func20, Tryd.ntmps20
  go_wp2_with fail
  refine HC.out.mono ?_
  rintro q1 w1 ⟨rfl, nd, rfl⟩
  go_wp2_with fail
  refine (NA.out _ (HE.out.below (by repeat (first | assumption | exact Below.refl _ _ | (refine Below.setCell ?_ (by first | omega | (simp; done) | (simp; omega)) _) | apply below_drewN | apply Below.drew | (refine Below.alloc ?_ (by first | omega | (simp; done) | (simp; omega)) _))))).mono ?_
  rintro q2 w2 ⟨rfl, b2⟩
  have d2 : Below w.heap.size w w2 := (by repeat (first | assumption | exact Below.refl _ _ | (refine Below.trans ?_ (b2.mono (by first | omega | (simp; done) | (simp; omega)))) | (refine Below.setCell ?_ (by first | omega | (simp; done) | (simp; omega)) _) | apply below_drewN | apply Below.drew | (refine Below.alloc ?_ (by first | omega | (simp; done) | (simp; omega)) _)))
  go_wp2_with fail
  refine (NB.out _ (HE.out.below d2)).mono ?_
  rintro q3 w3 ⟨rfl, b3⟩
  go_wp2
  go_ret2
  exact ⟨rfl, d2.trans (b3.mono d2.size)⟩

set_option maxRecDepth 100000 in
set_option maxHeartbeats 3200000 in
theorem rr_impl (s : ByteArray) (w : World) (hs : s.size ≤ 1048576) (env : NumEnv w) (ml : Int) (hml : w.cell? ⟨0, 0, none⟩ = some (.int .i64 ml)) (res : Option Int) (hres : ∀ n, res = some n ↔ isRn n ∧ s = rainB n) :
    Calls Tryd.prog 10 #[.string s] w fun e w' => e = .returned (.tuple #[.int .i64 (res.getD 0), .bool res.isSome]) ∧ Below w.heap.size w w' := by
  have HE := Lib.hid env
  have HM := Lib.hid hml
  obtain ⟨BD, hBD⟩ : ∃ BD : ByteArray, BD = ⟨(Lib.trimSuffix s.data.toList (ByteArray.mk #[109, 109]).data.toList).toArray⟩ := ⟨_, rfl⟩
  obtain ⟨A, hA⟩ : ∃ A : ByteArray, A = ⟨(Lib.cut BD.data.toList (ByteArray.mk #[46]).data.toList).1.toArray⟩ := ⟨_, rfl⟩
  obtain ⟨B, hB⟩ : ∃ B : ByteArray, B = ⟨(Lib.cut BD.data.toList (ByteArray.mk #[46]).data.toList).2.1.toArray⟩ := ⟨_, rfl⟩
  obtain ⟨cu, hcu⟩ : ∃ cu : Bool, cu = (Lib.cut BD.data.toList (ByteArray.mk #[46]).data.toList).2.2 := ⟨_, rfl⟩
  have hBs : BD.size ≤ 1048576 := by
    rw [hBD]
    have := trim_sz s.data.toList [109, 109]
    have hl : s.data.toList.length = s.size := rfl
    show (Lib.trimSuffix s.data.toList [109, 109]).length ≤ 1048576
    omega
  have hBl : BD.data.toList.length = BD.size := rfl
  obtain ⟨hAs, hBBs⟩ := cut_sz BD.data.toList
  have hAs' : A.size ≤ 1048576 := by rw [hA]; show (Lib.cut BD.data.toList [46]).1.length ≤ 1048576; omega
  have hBs' : B.size ≤ 1048576 := by rw [hB]; show (Lib.cut BD.data.toList [46]).2.1.length ≤ 1048576; omega
  clear hAs hBBs hBl
  obtain ⟨ra, hra⟩ := dec_res A.data.toList
  obtain ⟨rb, hrb⟩ := dec_res B.data.toList
  have HRA := Lib.hid hra
  have HRB := Lib.hid hrb
  have CUT : ∀ W : World, W.cell? ⟨0, 0, none⟩ = some (.int .i64 ml) → Calls Tryd.prog 29 #[.string BD, .string ⟨#[46]⟩] W fun e w' => e = .returned (.tuple #[.string A, .string B, .bool cu]) ∧ ∃ n, w' = W.drewN n := fun W hW => by
    rw [hA, hB, hcu]
    exact Tryd.strings_Cut BD ⟨#[46]⟩ ml W (by omega) hW
  have TRM : ∀ W : World, Calls Tryd.prog 21 #[.string s, .string ⟨#[109, 109]⟩] W fun e w' => e = .returned (.string BD) ∧ W = w' := fun W => by
    rw [hBD]
    exact (Tryd.strings_TrimSuffix s ⟨#[109, 109]⟩ W (by omega)).mono fun _ _ h => ⟨h.1, h.2.symm⟩
  have HCUT := Lib.hid CUT
  have HTRM := Lib.hid TRM
  cases hr : res with
  | some n =>
    obtain ⟨h1, h2⟩ := (hres n).1 hr
    have hc := rain_cut h2
    have e1 : A.data.toList = Lib.decDigits (n.toNat / 10) := by
      rw [hA, hBD]
      show (Lib.cut (Lib.trimSuffix s.data.toList [109, 109]) [46]).1 = _
      rw [hc]
    have e2 : B.data.toList = Lib.decDigits (n.toNat % 10) := by
      rw [hB, hBD]
      show (Lib.cut (Lib.trimSuffix s.data.toList [109, 109]) [46]).2.1 = _
      rw [hc]
      exact (dec1 _ (by omega)).symm
    have n1 : ra = some ((n.toNat / 10 : Nat) : Int) := (hra _).2 (by rw [e1]; exact dec_of _ (by obtain ⟨a, b⟩ := h1; omega))
    have n2 : rb = some ((n.toNat % 10 : Nat) : Int) := (hrb _).2 (by rw [e2]; exact dec_of _ (by omega))
    subst n1 n2
    have HO := Lib.hid h1
    have HT := Lib.hid (show rainT n = s by unfold rainT; rw [if_pos h1]; exact h2.symm)
    obtain ⟨a, b⟩ := h1
    obtain ⟨p, hp⟩ : ∃ p : Int, p = ((n.toNat / 10 : Nat) : Int) := ⟨_, rfl⟩
    obtain ⟨q, hq⟩ : ∃ p : Int, p = ((n.toNat % 10 : Nat) : Int) := ⟨_, rfl⟩
    have hN : 10 * p + q = n := by omega
    have x1 := IntWalk.i64_in (10 * p) (by omega)
    have x2 := IntWalk.i64_in (10 * p + q) (by omega)
    rw [← hp] at HRA
    rw [← hq] at HRB
    have HN := Lib.hid hN
    clear hr hres hc e1 e2 hra hrb hA hB hBD hcu h2 CUT TRM hN env hml hp hq
    go_enter Tryd.func10, Tryd.ntmps10
    go_wp2_with fail
    refine (HTRM.out _).mono ?_
    rintro q0 w0 ⟨rfl, rfl⟩
    go_wp2_with fail
    refine (pairR_t BD A B p q true true cu _ (HCUT.out _ HM.out) (fun W hW => num_impl A W hAs' hW _ HRA.out) (fun W hW => num_impl B W hBs' hW _ HRB.out) (HE.out.below (by repeat (first | assumption | exact Below.refl _ _ | (refine Below.setCell ?_ (by first | omega | (simp; done) | (simp; omega)) _) | apply below_drewN | apply Below.drew | (refine Below.alloc ?_ (by first | omega | (simp; done) | (simp; omega)) _))))).mono ?_
    rintro q3 w3 ⟨rfl, d3⟩
    go_wp2_with fail
    rw [HN.out]
    refine (isRain_t n _ HO.out).mono ?_
    rintro q4 w4 ⟨rfl, rfl⟩
    go_wp2_with fail
    refine (itext_any n _ (pow_below HE.out.pow d3)).mono ?_
    rintro q5 w5 ⟨rfl, b5⟩
    rw [HT.out]
    go_wp2
    go_ret2
    exact ⟨rfl, d3.trans (b5.mono d3.size)⟩
  | none =>
    have HNO := Lib.hid (show ∀ n, isRn n → rainT n ≠ s from fun n hn e => by
      have := (hres n).2 ⟨hn, by rw [← e]; unfold rainT; rw [if_pos hn]⟩
      rw [hr] at this
      cases this)
    obtain ⟨va, hva⟩ : ∃ va, va = ra.getD 0 := ⟨_, rfl⟩
    obtain ⟨ba, hba⟩ : ∃ va, va = ra.isSome := ⟨_, rfl⟩
    obtain ⟨vb, hvb⟩ : ∃ va, va = rb.getD 0 := ⟨_, rfl⟩
    obtain ⟨bb, hbb⟩ : ∃ va, va = rb.isSome := ⟨_, rfl⟩
    have NA := Lib.hid (show ∀ W : World, NumEnv W → Calls Tryd.prog 36 #[.string A] W fun e w' => e = .returned (.tuple #[.int .i64 va, .bool ba]) ∧ Below W.heap.size W w' from fun W hW => by rw [hva, hba]; exact num_impl A W hAs' hW _ HRA.out)
    have NB := Lib.hid (show ∀ W : World, NumEnv W → Calls Tryd.prog 36 #[.string B] W fun e w' => e = .returned (.tuple #[.int .i64 vb, .bool bb]) ∧ Below W.heap.size W w' from fun W hW => by rw [hvb, hbb]; exact num_impl B W hBs' hW _ HRB.out)
    clear hr hres hra hrb hA hB hBD hcu CUT TRM env hml hva hba hvb hbb HRA HRB
    go_enter Tryd.func10, Tryd.ntmps10
    go_wp2_with fail
    refine (HTRM.out _).mono ?_
    rintro q0 w0 ⟨rfl, rfl⟩
    go_wp2_with fail
    refine (pairR_t BD A B va vb ba bb cu _ (HCUT.out _ HM.out) NA.out NB.out (HE.out.below (by repeat (first | assumption | exact Below.refl _ _ | (refine Below.setCell ?_ (by first | omega | (simp; done) | (simp; omega)) _) | apply below_drewN | apply Below.drew | (refine Below.alloc ?_ (by first | omega | (simp; done) | (simp; omega)) _))))).mono ?_
    rintro q3 w3 ⟨rfl, d3⟩
    go_wp2_with fail
    generalize wrap64 (wrap64 (10 * va) + vb) = N
    by_cases hN : isRn N
    · have gf := strF (HNO.out N hN)
      have HO := Lib.hid hN
      clear hN
      refine (isRain_t N _ HO.out).mono ?_
      rintro q4 w4 ⟨rfl, rfl⟩
      go_wp2_with fail
      refine (itext_any N _ (pow_below HE.out.pow d3)).mono ?_
      rintro q5 w5 ⟨rfl, b5⟩
      go_wp2
      go_ret2
      exact ⟨rfl, d3.trans (b5.mono d3.size)⟩
    · have HO := Lib.hid hN
      clear hN
      refine (isRain_f N _ HO.out).mono ?_
      rintro q4 w4 ⟨rfl, rfl⟩
      go_wp2
      go_ret2
      exact ⟨rfl, d3⟩

end Go.Proofs.YthfemghfkfmkdaaDoor
