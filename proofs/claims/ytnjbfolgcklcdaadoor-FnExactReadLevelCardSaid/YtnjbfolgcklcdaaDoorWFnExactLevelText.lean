import Derived.Test.YtnjbfolgcklcdaaDoorDecI
import Derived.Test.YtnjbfolgcklcdaaDoorIn
namespace Go.Proofs.YtnjbfolgcklcdaaDoor
open Go.RowKit

def dS (u : Nat) : ByteArray := ⟨(Lib.decDigits u).toArray⟩

theorem dS_len (u : Nat) (h : u ≤ 1000000000) : (dS u).size ≤ 10 := by
  show (Lib.decDigits u).length ≤ 10
  exact dec_len 9 u (by omega)

theorem dec_specN (x : Int) (u : Nat) (w : World) (hx : x = (u : Int)) (hu : u ≤ 1000000000) :
    Calls Tryd.prog 16 #[.int .i64 x] w fun e w' => e = .returned (.string (dS u)) ∧ Below w.heap.size w w' := by
  subst hx
  have e : Lib.itoa (u : Int) = Lib.decDigits u := by
    unfold Lib.itoa
    rw [if_neg (by omega)]
    rfl
  have := dec_spec (u : Int) w ⟨by omega, by omega⟩
  rw [e] at this
  exact this

theorem dec_implN (x : Int) (u : Nat) (w : World) (hx : x = (u : Int)) (hu : u < 100) :
    Calls Tryd.prog 28 #[.int .i64 x] w fun e w' => e = .returned (.string (dS u)) ∧ w = w' := by
  subst hx
  have H := Lib.hid hu
  go_enter Tryd.func28, Tryd.ntmps28
  go_wp2_with (first | (go_at_call 46; refine (Tryd.internal_strconv_FormatInt_10_small u H.out _).mono ?_; rintro e w' ⟨rfl, rfl⟩) | go_in)
  go_ret
  exact ⟨rfl, rfl⟩

set_option maxHeartbeats 400000 in
theorem two_spec (x : Int) (u : Nat) (w : World) (hx : x = (u : Int)) (hu : u < 100) :
    Calls Tryd.prog 18 #[.int .i64 x] w fun e w' => e = .returned (.string (dS (u / 10) ++ dS (u % 10))) ∧ Below w.heap.size w w' := by
  subst hx
  have H := Lib.hid hu
  have q1 : (u : Int) < 100 := by omega
  have z1 := dS_len (u / 10) (by omega)
  have z2 := dS_len (u % 10) (by omega)
  clear hu
  go_enter Tryd.func18, Tryd.ntmps18
  go_wp2_with fail
  refine (dec_specN _ (u / 10) _ (by omega) (by have := H.out; omega)).mono ?_
  rintro e w1 ⟨rfl, b1⟩
  go_wp2_with fail
  refine (dec_specN _ (u % 10) _ (by omega) (by have := H.out; omega)).mono ?_
  rintro e w2 ⟨rfl, b2⟩
  go_wp2_with fail
  go_ret
  exact ⟨rfl, b1.trans (b2.mono b1.size)⟩

def signB (n : Int) : ByteArray := if n < 0 then ⟨#[45]⟩ else ⟨#[43]⟩
def levelB (n : Int) : ByteArray := signB n ++ dS (n.natAbs / 100) ++ ⟨#[46]⟩ ++ (dS (n.natAbs % 100 / 10) ++ dS (n.natAbs % 10)) ++ ⟨#[109]⟩

theorem size_spec (n : Int) (w : World) (h1 : -1000000000 ≤ n) (h2 : n ≤ 1000000000) :
    Calls Tryd.prog 17 #[.int .i64 n] w fun e w' => e = .returned (.int .i64 (n.natAbs : Int)) ∧ w = w' := by
  by_cases h : n < 0
  · go_enter Tryd.func17, Tryd.ntmps17
    go_wp2
    go_ret
    exact ⟨ret_int (by omega), rfl⟩
  · go_enter Tryd.func17, Tryd.ntmps17
    go_wp2
    go_ret
    exact ⟨ret_int (by omega), rfl⟩

set_option maxHeartbeats 400000 in
theorem text_spec (n : Int) (w : World) (h1 : -2000 ≤ n) (h2 : n ≤ 2000) :
    Calls Tryd.prog 11 #[.int .i64 n] w fun e w' => e = .returned (.string (levelB n)) ∧ Below w.heap.size w w' := by
  have hq : (n.natAbs : Int) ≤ 2000 := by omega
  have hm : (n.natAbs : Int) / 100 = ((n.natAbs / 100 : Nat) : Int) := by omega
  have hr : (n.natAbs : Int) % 100 = ((n.natAbs % 100 : Nat) : Int) := by omega
  have HM := Lib.hid hm
  have z1 := dS_len (n.natAbs / 100) (by omega)
  have z2 := dS_len (n.natAbs % 100 / 10) (by omega)
  have z3 := dS_len (n.natAbs % 10) (by omega)
  have HR := Lib.hid hr
  clear hm hr
  by_cases hs : n < 0
  · have E := Lib.hid (show signB n = ⟨#[45]⟩ from if_pos hs)
    go_enter Tryd.func11, Tryd.ntmps11
    go_wp2_with fail
    refine (size_spec _ _ (by omega) (by omega)).mono ?_
    rintro e w1 ⟨rfl, rfl⟩
    go_wp2_with fail
    refine (dec_specN _ (n.natAbs / 100) _ (by omega) (by omega)).mono ?_
    rintro e w2 ⟨rfl, b2⟩
    go_wp2_with fail
    refine (size_spec _ _ (by omega) (by omega)).mono ?_
    rintro e w3 ⟨rfl, rfl⟩
    go_wp2_with fail
    refine (two_spec _ (n.natAbs % 100) _ (by omega) (by omega)).mono ?_
    rintro e w4 ⟨rfl, b4⟩
    go_wp2_with fail
    go_ret
    exact ⟨ret_str (by unfold levelB; rw [E.out]), b2.trans (b4.mono b2.size)⟩
  · have E := Lib.hid (show signB n = ⟨#[43]⟩ from if_neg hs)
    go_enter Tryd.func11, Tryd.ntmps11
    go_wp2_with fail
    refine (size_spec _ _ (by omega) (by omega)).mono ?_
    rintro e w1 ⟨rfl, rfl⟩
    go_wp2_with fail
    refine (dec_specN _ (n.natAbs / 100) _ (by omega) (by omega)).mono ?_
    rintro e w2 ⟨rfl, b2⟩
    go_wp2_with fail
    refine (size_spec _ _ (by omega) (by omega)).mono ?_
    rintro e w3 ⟨rfl, rfl⟩
    go_wp2_with fail
    refine (two_spec _ (n.natAbs % 100) _ (by omega) (by omega)).mono ?_
    rintro e w4 ⟨rfl, b4⟩
    go_wp2_with fail
    go_ret
    exact ⟨ret_str (by unfold levelB; rw [E.out]), b2.trans (b4.mono b2.size)⟩

set_option maxHeartbeats 400000 in
theorem parts_impl (n : Int) (w : World) (h1 : -2000 ≤ n) (h2 : n ≤ 2000) :
    Calls Tryd.prog 15 #[.int .i64 n] w fun e w' => e = .returned (.agg #[.string (signB n), .int .i64 ((n.natAbs / 100 : Nat) : Int), .int .i64 ((n.natAbs % 100 : Nat) : Int)]) ∧ Below w.heap.size w w' := by
  have hq : (n.natAbs : Int) ≤ 2000 := by omega
  by_cases hs : n < 0
  · have E := Lib.hid (show signB n = ⟨#[45]⟩ from if_pos hs)
    have e1 : -n / 100 = ((n.natAbs / 100 : Nat) : Int) := by omega
    have e2 : -n % 100 = ((n.natAbs % 100 : Nat) : Int) := by omega
    have E1 := Lib.hid e1
    have E2 := Lib.hid e2
    clear e1 e2
    go_enter Tryd.func15, Tryd.ntmps15
    go_wp2
    exact bodyPost_ret (v := .agg #[.string (signB n), .int .i64 ((n.natAbs / 100 : Nat) : Int), .int .i64 ((n.natAbs % 100 : Nat) : Int)]) (by rw [E.out, ← E1.out, ← E2.out]; simp [results, Tryd.results15, go_sem]; omega) rfl ⟨rfl, (by repeat (first | assumption | exact Below.refl _ _ | (refine Below.setCell ?_ (by first | omega | (simp; done) | (simp; omega)) _) | apply below_drewN | apply Below.drew | (refine Below.alloc ?_ (by first | omega | (simp; done) | (simp; omega)) _)))⟩
  · have E := Lib.hid (show signB n = ⟨#[43]⟩ from if_neg hs)
    have e1 : n / 100 = ((n.natAbs / 100 : Nat) : Int) := by omega
    have e2 : n % 100 = ((n.natAbs % 100 : Nat) : Int) := by omega
    have E1 := Lib.hid e1
    have E2 := Lib.hid e2
    clear e1 e2
    go_enter Tryd.func15, Tryd.ntmps15
    go_wp2
    exact bodyPost_ret (v := .agg #[.string (signB n), .int .i64 ((n.natAbs / 100 : Nat) : Int), .int .i64 ((n.natAbs % 100 : Nat) : Int)]) (by rw [E.out, ← E1.out, ← E2.out]; simp [results, Tryd.results15, go_sem]; omega) rfl ⟨rfl, (by repeat (first | assumption | exact Below.refl _ _ | (refine Below.setCell ?_ (by first | omega | (simp; done) | (simp; omega)) _) | apply below_drewN | apply Below.drew | (refine Below.alloc ?_ (by first | omega | (simp; done) | (simp; omega)) _)))⟩

def levelT (n : Int) : ByteArray := if -2000 ≤ n ∧ n ≤ 2000 then levelB n else ByteArray.empty

theorem signB_len (n : Int) : (signB n).size = 1 := by
  unfold signB
  split <;> rfl


end Go.Proofs.YtnjbfolgcklcdaaDoor
