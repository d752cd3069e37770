import Derived.Test.YthfemghfkfmkdaaGreatDoorSum
import Derived.Test.YthfemghfkfmkdaaGreatDoorLevelsE
import Derived.Test.YthfemghfkfmkdaaGreatDoorFrac
namespace Go.Proofs.YthfemghfkfmkdaaGreatDoor
open Go.RowKit

def mnNum (n : Nat) (xs : List Int) : Int := if LvOk n xs ∧ 0 < n then fnum (sumN xs n) n else 0
def mnDen (n : Nat) (xs : List Int) : Int := if LvOk n xs ∧ 0 < n then fden (sumN xs n) n else 0

theorem someC_ok (n : Nat) (xs : List Int) (h : LvOk n xs) (h0 : 0 < n) : someC n xs = 0 := by
  unfold someC
  rw [if_pos h, if_neg (by omega)]

theorem someC_no (n : Nat) (xs : List Int) (h : ¬ (LvOk n xs ∧ 0 < n)) : (someC n xs != 0) = true := by
  unfold someC
  by_cases h1 : LvOk n xs
  · rw [if_pos h1, if_pos (by have : ¬ 0 < n := fun h2 => h ⟨h1, h2⟩; omega)]
    rfl
  · rw [if_neg h1]
    rfl

set_option maxHeartbeats 400000 in
theorem spec_mean (A : Option Addr) (n c : Nat) (xs : List Int) (w : World) (hn : n ≤ 1048576) (ha : Rd w w.heap.size A n xs) :
    Calls Tryz.prog 11 #[.slice A n c] w fun e w' => e = .returned (.tuple #[.agg #[.int .i64 (mnNum n xs), .int .i64 (mnDen n xs)], .int .i64 (someC n xs)]) ∧ Below w.heap.size w w' := by
  have hw : Below w.heap.size w (w.alloc (.cells #[.int .i64 0, .int .i64 0] 31)) := (Below.refl _ _).alloc (Nat.le_refl _) _
  have HA := Lib.hid (Rd.mono (ha.below hw) (by simp : w.heap.size ≤ (w.alloc (.cells #[.int .i64 0, .int .i64 0] 31)).heap.size))
  clear ha hw
  by_cases hv : LvOk n xs ∧ 0 < n
  · have e1 : mnNum n xs = fnum (sumN xs n) n := if_pos hv
    have e2 : mnDen n xs = fden (sumN xs n) n := if_pos hv
    have e3 := someC_ok n xs hv.1 hv.2
    rw [e1, e2, e3]
    have h60 := hv.1.2
    have h0 := hv.2
    have sb := sumN_bd n xs hv.1 n (Nat.le_refl _)
    obtain ⟨sb1, sb2⟩ := sb
    have HV := Lib.hid hv.1
    have E3 := Lib.hid e3
    clear hv e1 e2 e3
    go_enter Tryz.func11, Tryz.ntmps11
    go_wp2_with fail
    refine (spec_some _ _ _ xs _ hn HA.out).mono ?_
    rintro e w' ⟨rfl, rfl⟩
    rw [E3.out]
    go_wp2_with fail
    refine (spec_sum _ _ _ xs _ hn HA.out HV.out).mono ?_
    rintro e w' ⟨rfl, rfl⟩
    go_wp2_with fail
    refine (spec_make _ _ _ (by omega) (by omega) (by omega) (by omega)).mono ?_
    rintro e w1 ⟨rfl, hb⟩
    obtain ⟨hc, hf⟩ := bcell hb
    have hz := hb.size
    simp at hz
    go_wp2_with fail
    exact bodyPost_ret (v := .tuple #[.agg #[.int .i64 (fnum (sumN xs n) n), .int .i64 (fden (sumN xs n) n)], .int .i64 0]) (by simp [results, Tryz.results11, go_sem, hc, hz]) rfl ⟨rfl, by
      refine Below.setCell (Below.setCell (Below.trans ?_ (hb.mono (by simp))) (by simp) _) (by simp) _
      exact (by repeat (first | assumption | exact Below.refl _ _ | (refine Below.setCell ?_ (by first | omega | (simp; done) | (simp; omega)) _) | apply below_drewN | apply Below.drew | (refine Below.alloc ?_ (by first | omega | (simp; done) | (simp; omega)) _)))⟩
  · have e1 : mnNum n xs = 0 := if_neg hv
    have e2 : mnDen n xs = 0 := if_neg hv
    have e3 := someC_no n xs hv
    rw [e1, e2]
    clear hv e1 e2
    go_enter Tryz.func11, Tryz.ntmps11
    go_wp2_with fail
    refine (spec_some _ _ _ xs _ hn HA.out).mono ?_
    rintro e w' ⟨rfl, rfl⟩
    go_wp2_with fail
    exact bodyPost_ret (v := .tuple #[.agg #[.int .i64 0, .int .i64 0], .int .i64 (someC n xs)]) (by simp [results, Tryz.results11, go_sem]) rfl ⟨rfl, (by repeat (first | assumption | exact Below.refl _ _ | (refine Below.setCell ?_ (by first | omega | (simp; done) | (simp; omega)) _) | apply below_drewN | apply Below.drew | (refine Below.alloc ?_ (by first | omega | (simp; done) | (simp; omega)) _)))⟩

set_option maxHeartbeats 400000 in
theorem impl_mean (A : Option Addr) (n c : Nat) (xs : List Int) (w : World) (hn : n ≤ 1048576) (ha : Rd w w.heap.size A n xs) :
    Calls Tryz.prog 10 #[.slice A n c] w fun e w' => e = .returned (.tuple #[.agg #[.int .i64 (mnNum n xs), .int .i64 (mnDen n xs)], .int .i64 (someC n xs)]) ∧ Below w.heap.size w w' := by
  have hw : Below w.heap.size w (w.alloc (.cells #[.int .i64 0, .int .i64 0] 31)) := (Below.refl _ _).alloc (Nat.le_refl _) _
  have HA := Lib.hid (Rd.mono (ha.below hw) (by simp : w.heap.size ≤ (w.alloc (.cells #[.int .i64 0, .int .i64 0] 31)).heap.size))
  clear ha hw
  by_cases hv : LvOk n xs
  · have HV := Lib.hid hv
    by_cases h0 : n = 0
    · have e1 : mnNum n xs = 0 := if_neg (by omega)
      have e2 : mnDen n xs = 0 := if_neg (by omega)
      have e3 : someC n xs = 3 := by unfold someC; rw [if_pos hv, if_pos h0]
      rw [e1, e2, e3]
      have hz0 : ((n : Int) == 0) = true := by simp [h0]
      clear hv e1 e2 e3 h0
      go_enter Tryz.func10, Tryz.ntmps10
      go_wp2_with fail
      refine (areGauges_any _ _ _ xs _ hn HA.out true ⟨fun _ => HV.out, fun _ => rfl⟩).mono ?_
      rintro e w' ⟨rfl, rfl⟩
      go_wp2_with fail
      exact bodyPost_ret (v := .tuple #[.agg #[.int .i64 0, .int .i64 0], .int .i64 3]) (by simp [results, Tryz.results10, go_sem]) rfl ⟨rfl, (by repeat (first | assumption | exact Below.refl _ _ | (refine Below.setCell ?_ (by first | omega | (simp; done) | (simp; omega)) _) | apply below_drewN | apply Below.drew | (refine Below.alloc ?_ (by first | omega | (simp; done) | (simp; omega)) _)))⟩
    · have h0' : 0 < n := by omega
      have e1 : mnNum n xs = fnum (sumN xs n) n := if_pos ⟨hv, h0'⟩
      have e2 : mnDen n xs = fden (sumN xs n) n := if_pos ⟨hv, h0'⟩
      have e3 := someC_ok n xs hv h0'
      rw [e1, e2, e3]
      have h60 := hv.2
      have sb := sumN_bd n xs hv n (Nat.le_refl _)
      obtain ⟨sb1, sb2⟩ := sb
      have hz0 : ((n : Int) == 0) = false := by simp [h0]
      clear hv e1 e2 e3
      go_enter Tryz.func10, Tryz.ntmps10
      go_wp2_with fail
      refine (areGauges_any _ _ _ xs _ hn HA.out true ⟨fun _ => HV.out, fun _ => rfl⟩).mono ?_
      rintro e w' ⟨rfl, rfl⟩
      go_wp2_with fail
      refine (impl_sum _ _ _ xs _ hn ((HA.out.below (by repeat (first | assumption | exact Below.refl _ _ | (refine Below.setCell ?_ (by first | omega | (simp; done) | (simp; omega)) _) | apply below_drewN | apply Below.drew | (refine Below.alloc ?_ (by first | omega | (simp; done) | (simp; omega)) _)))).mono (by first | omega | (simp; done) | (simp; omega))) HV.out).mono ?_
      rintro e w' ⟨rfl, rfl⟩
      go_wp2_with fail
      refine (impl_lowest _ _ _ (by omega) (by omega) (by omega) (by omega)).mono ?_
      rintro e w1 ⟨rfl, hb⟩
      obtain ⟨hc, hf⟩ := bcell hb
      have hz := hb.size
      simp at hz
      have hz9 : w.heap.size < w1.heap.size := by omega
      have zq0 : w1.cell? ⟨w.heap.size, 0, none⟩ = some (.int .i64 0) := (by rw [hc _ _ (by first | omega | (simp; done) | (simp; omega))]; first | (simp; done) | go_simp); have zqf0 : w1.frozen? ⟨w.heap.size, 0, none⟩ = false := (by rw [hf _ _ (by first | omega | (simp; done) | (simp; omega))]; first | (simp; done) | go_simp); have zq1 : w1.cell? ⟨w.heap.size, 1, none⟩ = some (.int .i64 0) := (by rw [hc _ _ (by first | omega | (simp; done) | (simp; omega))]; first | (simp; done) | go_simp); have zqf1 : w1.frozen? ⟨w.heap.size, 1, none⟩ = false := (by rw [hf _ _ (by first | omega | (simp; done) | (simp; omega))]; first | (simp; done) | go_simp)
      clear hc hf
      go_wp2_with fail
      exact bodyPost_ret (v := .tuple #[.agg #[.int .i64 (fnum (sumN xs n) n), .int .i64 (fden (sumN xs n) n)], .int .i64 0]) (by simp [results, Tryz.results10, go_sem, zq0, zq1, hz]) rfl ⟨rfl, by
        refine Below.setCell (Below.setCell (Below.trans ?_ (hb.mono (by simp; omega))) (by simp) _) (by simp) _
        exact (by repeat (first | assumption | exact Below.refl _ _ | (refine Below.setCell ?_ (by first | omega | (simp; done) | (simp; omega)) _) | apply below_drewN | apply Below.drew | (refine Below.alloc ?_ (by first | omega | (simp; done) | (simp; omega)) _)))⟩
  · have HV := Lib.hid hv
    have e1 : mnNum n xs = 0 := if_neg (fun h => hv h.1)
    have e2 : mnDen n xs = 0 := if_neg (fun h => hv h.1)
    have e3 : someC n xs = 2 := if_neg hv
    rw [e1, e2, e3]
    clear hv e1 e2 e3
    go_enter Tryz.func10, Tryz.ntmps10
    go_wp2_with fail
    refine (areGauges_any _ _ _ xs _ hn HA.out false ⟨fun h => by simp at h, fun h => absurd h HV.out⟩).mono ?_
    rintro e w' ⟨rfl, rfl⟩
    go_wp2_with fail
    exact bodyPost_ret (v := .tuple #[.agg #[.int .i64 0, .int .i64 0], .int .i64 2]) (by simp [results, Tryz.results10, go_sem]) rfl ⟨rfl, (by repeat (first | assumption | exact Below.refl _ _ | (refine Below.setCell ?_ (by first | omega | (simp; done) | (simp; omega)) _) | apply below_drewN | apply Below.drew | (refine Below.alloc ?_ (by first | omega | (simp; done) | (simp; omega)) _)))⟩


end Go.Proofs.YthfemghfkfmkdaaGreatDoor
