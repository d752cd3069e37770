import Derived.Test.YthfemghfkfmkdaaGreatDoorDecI
import Derived.Test.YthfemghfkfmkdaaGreatDoorIn
namespace Go.Proofs.YthfemghfkfmkdaaGreatDoor
open Go.RowKit

def dS (u : Nat) : ByteArray := ⟨(Lib.decDigits u).toArray⟩

theorem dS_len (u : Nat) (h : u ≤ 1000000000) : (dS u).size ≤ 10 := by
  show (Lib.decDigits u).length ≤ 10
  exact dec_len 9 u (by omega)

theorem dec_specN (x : Int) (u : Nat) (w : World) (hx : x = (u : Int)) (hu : u ≤ 1000000000) :
    Calls Tryz.prog 78 #[.int .i64 x] w fun e w' => e = .returned (.string (dS u)) ∧ Below w.heap.size w w' := by
  subst hx
  have e : Lib.itoa (u : Int) = Lib.decDigits u := by
    unfold Lib.itoa
    rw [if_neg (by omega)]
    rfl
  have := dec_spec (u : Int) w ⟨by omega, by omega⟩
  rw [e] at this
  exact this

theorem dec_implN (x : Int) (u : Nat) (w : World) (hx : x = (u : Int)) (hu : u < 100) :
    Calls Tryz.prog 53 #[.int .i64 x] w fun e w' => e = .returned (.string (dS u)) ∧ w = w' := by
  subst hx
  have H := Lib.hid hu
  go_enter Tryz.func53, Tryz.ntmps53
  go_wp2_with (first | (go_at_call 84; refine (Tryz.internal_strconv_FormatInt_10_small u H.out _).mono ?_; rintro e w' ⟨rfl, rfl⟩) | go_in)
  go_ret
  exact ⟨rfl, rfl⟩

set_option maxHeartbeats 400000 in
theorem two_spec (x : Int) (u : Nat) (w : World) (hx : x = (u : Int)) (hu : u < 100) :
    Calls Tryz.prog 79 #[.int .i64 x] w fun e w' => e = .returned (.string (dS (u / 10) ++ dS (u % 10))) ∧ Below w.heap.size w w' := by
  subst hx
  have H := Lib.hid hu
  have q1 : (u : Int) < 100 := by omega
  have z1 := dS_len (u / 10) (by omega)
  have z2 := dS_len (u % 10) (by omega)
  clear hu
  go_enter Tryz.func79, Tryz.ntmps79
  go_wp2_with fail
  refine (dec_specN _ (u / 10) _ (by omega) (by have := H.out; omega)).mono ?_
  rintro e w1 ⟨rfl, b1⟩
  go_wp2_with fail
  refine (dec_specN _ (u % 10) _ (by omega) (by have := H.out; omega)).mono ?_
  rintro e w2 ⟨rfl, b2⟩
  go_wp2_with fail
  go_ret
  exact ⟨rfl, b1.trans (b2.mono b1.size)⟩

set_option maxHeartbeats 400000 in
theorem two_impl (x : Int) (u : Nat) (w : World) (hx : x = (u : Int)) (hu : u < 100) :
    Calls Tryz.prog 54 #[.int .i64 x] w fun e w' => e = .returned (.string (dS (u / 10) ++ dS (u % 10))) ∧ w = w' := by
  subst hx
  have H := Lib.hid hu
  have q1 : (u : Int) < 100 := by omega
  have z1 := dS_len (u / 10) (by omega)
  have z2 := dS_len (u % 10) (by omega)
  clear hu
  go_enter Tryz.func54, Tryz.ntmps54
  go_wp2_with fail
  refine (dec_implN _ (u / 10) _ (by omega) (by have := H.out; omega)).mono ?_
  rintro e w1 ⟨rfl, rfl⟩
  go_wp2_with fail
  refine (dec_implN _ (u % 10) _ (by omega) (by have := H.out; omega)).mono ?_
  rintro e w2 ⟨rfl, rfl⟩
  go_wp2_with fail
  go_ret
  exact ⟨rfl, rfl⟩

def signB (n : Int) : ByteArray := if n < 0 then ⟨#[45]⟩ else ⟨#[43]⟩
def levelB (n : Int) : ByteArray := signB n ++ dS (n.natAbs / 100) ++ ⟨#[46]⟩ ++ (dS (n.natAbs % 100 / 10) ++ dS (n.natAbs % 10)) ++ ⟨#[109]⟩

theorem size_spec (n : Int) (w : World) (h1 : -1000000000 ≤ n) (h2 : n ≤ 1000000000) :
    Calls Tryz.prog 38 #[.int .i64 n] w fun e w' => e = .returned (.int .i64 (n.natAbs : Int)) ∧ w = w' := by
  by_cases h : n < 0
  · go_enter Tryz.func38, Tryz.ntmps38
    go_wp2
    go_ret
    exact ⟨ret_int (by omega), rfl⟩
  · go_enter Tryz.func38, Tryz.ntmps38
    go_wp2
    go_ret
    exact ⟨ret_int (by omega), rfl⟩

set_option maxHeartbeats 400000 in
theorem text_spec (n : Int) (w : World) (h1 : -2000 ≤ n) (h2 : n ≤ 2000) :
    Calls Tryz.prog 57 #[.int .i64 n] w fun e w' => e = .returned (.string (levelB n)) ∧ Below w.heap.size w w' := by
  have hq : (n.natAbs : Int) ≤ 2000 := by omega
  have hm : (n.natAbs : Int) / 100 = ((n.natAbs / 100 : Nat) : Int) := by omega
  have hr : (n.natAbs : Int) % 100 = ((n.natAbs % 100 : Nat) : Int) := by omega
  have HM := Lib.hid hm
  have z1 := dS_len (n.natAbs / 100) (by omega)
  have z2 := dS_len (n.natAbs % 100 / 10) (by omega)
  have z3 := dS_len (n.natAbs % 10) (by omega)
  have HR := Lib.hid hr
  clear hm hr
  by_cases hs : n < 0
  · have E := Lib.hid (show signB n = ⟨#[45]⟩ from if_pos hs)
    go_enter Tryz.func57, Tryz.ntmps57
    go_wp2_with fail
    refine (size_spec _ _ (by omega) (by omega)).mono ?_
    rintro e w1 ⟨rfl, rfl⟩
    go_wp2_with fail
    refine (dec_specN _ (n.natAbs / 100) _ (by omega) (by omega)).mono ?_
    rintro e w2 ⟨rfl, b2⟩
    go_wp2_with fail
    refine (size_spec _ _ (by omega) (by omega)).mono ?_
    rintro e w3 ⟨rfl, rfl⟩
    go_wp2_with fail
    refine (two_spec _ (n.natAbs % 100) _ (by omega) (by omega)).mono ?_
    rintro e w4 ⟨rfl, b4⟩
    go_wp2_with fail
    go_ret
    exact ⟨ret_str (by unfold levelB; rw [E.out]), b2.trans (b4.mono b2.size)⟩
  · have E := Lib.hid (show signB n = ⟨#[43]⟩ from if_neg hs)
    go_enter Tryz.func57, Tryz.ntmps57
    go_wp2_with fail
    refine (size_spec _ _ (by omega) (by omega)).mono ?_
    rintro e w1 ⟨rfl, rfl⟩
    go_wp2_with fail
    refine (dec_specN _ (n.natAbs / 100) _ (by omega) (by omega)).mono ?_
    rintro e w2 ⟨rfl, b2⟩
    go_wp2_with fail
    refine (size_spec _ _ (by omega) (by omega)).mono ?_
    rintro e w3 ⟨rfl, rfl⟩
    go_wp2_with fail
    refine (two_spec _ (n.natAbs % 100) _ (by omega) (by omega)).mono ?_
    rintro e w4 ⟨rfl, b4⟩
    go_wp2_with fail
    go_ret
    exact ⟨ret_str (by unfold levelB; rw [E.out]), b2.trans (b4.mono b2.size)⟩

set_option maxHeartbeats 400000 in
theorem parts_impl (n : Int) (w : World) (h1 : -2000 ≤ n) (h2 : n ≤ 2000) :
    Calls Tryz.prog 52 #[.int .i64 n] w fun e w' => e = .returned (.agg #[.string (signB n), .int .i64 ((n.natAbs / 100 : Nat) : Int), .int .i64 ((n.natAbs % 100 : Nat) : Int)]) ∧ Below w.heap.size w w' := by
  have hq : (n.natAbs : Int) ≤ 2000 := by omega
  by_cases hs : n < 0
  · have E := Lib.hid (show signB n = ⟨#[45]⟩ from if_pos hs)
    have e1 : -n / 100 = ((n.natAbs / 100 : Nat) : Int) := by omega
    have e2 : -n % 100 = ((n.natAbs % 100 : Nat) : Int) := by omega
    have E1 := Lib.hid e1
    have E2 := Lib.hid e2
    clear e1 e2
    go_enter Tryz.func52, Tryz.ntmps52
    go_wp2
    exact bodyPost_ret (v := .agg #[.string (signB n), .int .i64 ((n.natAbs / 100 : Nat) : Int), .int .i64 ((n.natAbs % 100 : Nat) : Int)]) (by rw [E.out, ← E1.out, ← E2.out]; simp [results, Tryz.results52, go_sem]; omega) rfl ⟨rfl, (by repeat (first | assumption | exact Below.refl _ _ | (refine Below.setCell ?_ (by first | omega | (simp; done) | (simp; omega)) _) | apply below_drewN | apply Below.drew | (refine Below.alloc ?_ (by first | omega | (simp; done) | (simp; omega)) _)))⟩
  · have E := Lib.hid (show signB n = ⟨#[43]⟩ from if_neg hs)
    have e1 : n / 100 = ((n.natAbs / 100 : Nat) : Int) := by omega
    have e2 : n % 100 = ((n.natAbs % 100 : Nat) : Int) := by omega
    have E1 := Lib.hid e1
    have E2 := Lib.hid e2
    clear e1 e2
    go_enter Tryz.func52, Tryz.ntmps52
    go_wp2
    exact bodyPost_ret (v := .agg #[.string (signB n), .int .i64 ((n.natAbs / 100 : Nat) : Int), .int .i64 ((n.natAbs % 100 : Nat) : Int)]) (by rw [E.out, ← E1.out, ← E2.out]; simp [results, Tryz.results52, go_sem]; omega) rfl ⟨rfl, (by repeat (first | assumption | exact Below.refl _ _ | (refine Below.setCell ?_ (by first | omega | (simp; done) | (simp; omega)) _) | apply below_drewN | apply Below.drew | (refine Below.alloc ?_ (by first | omega | (simp; done) | (simp; omega)) _)))⟩

def levelT (n : Int) : ByteArray := if -2000 ≤ n ∧ n ≤ 2000 then levelB n else ByteArray.empty

theorem signB_len (n : Int) : (signB n).size = 1 := by
  unfold signB
  split <;> rfl

set_option maxHeartbeats 400000 in
theorem level_spec (n : Int) (w : World) :
    Calls Tryz.prog 23 #[.int .i64 n] w fun e w' => e = .returned (.string (levelT n)) ∧ Below w.heap.size w w' := by
  by_cases h : -2000 ≤ n ∧ n ≤ 2000
  · have E := Lib.hid (show levelT n = levelB n from if_pos h)
    go_enter Tryz.func23, Tryz.ntmps23
    go_wp2_with (first | (go_at_call 37; first | (refine (in_t _ _ _ _ (by omega)).mono ?_; rintro e w' ⟨rfl, rfl⟩) | (refine (in_f _ _ _ _ (by omega)).mono ?_; rintro e w' ⟨rfl, rfl⟩)) | (go_at_call 57; refine (text_spec _ _ h.1 h.2).mono ?_; rintro e w1 ⟨rfl, b1⟩) | go_in)
    go_ret
    exact ⟨ret_str E.out.symm, b1⟩
  · have E := Lib.hid (show levelT n = ByteArray.empty from if_neg h)
    go_enter Tryz.func23, Tryz.ntmps23
    go_wp2_with (first | (go_at_call 37; first | (refine (in_t _ _ _ _ (by omega)).mono ?_; rintro e w' ⟨rfl, rfl⟩) | (refine (in_f _ _ _ _ (by omega)).mono ?_; rintro e w' ⟨rfl, rfl⟩)) | go_in)
    go_ret
    exact ⟨ret_str E.out.symm, Below.refl _ _⟩

set_option maxHeartbeats 1000000 in
theorem level_impl (n : Int) (w : World) :
    Calls Tryz.prog 18 #[.int .i64 n] w fun e w' => e = .returned (.string (levelT n)) ∧ Below w.heap.size w w' := by
  by_cases h : -2000 ≤ n ∧ n ≤ 2000
  · have E := Lib.hid (show levelT n = levelB n from if_pos h)
    have z1 := dS_len (n.natAbs / 100) (by omega)
    have z2 := dS_len (n.natAbs % 100 / 10) (by omega)
    have z3 := dS_len (n.natAbs % 10) (by omega)
    have z4 : (signB n).size ≤ 1 := by rw [signB_len]; exact Nat.le_refl _
    have z5 : n.natAbs / 100 < 100 := by omega
    have z6 : n.natAbs % 100 < 100 := by omega
    go_enter Tryz.func18, Tryz.ntmps18
    go_wp2_with (first | (go_at_call 32; first | (refine (within_t _ _ _ _ (by omega)).mono ?_; rintro e w' ⟨rfl, rfl⟩) | (refine (within_f _ _ _ _ (by omega)).mono ?_; rintro e w' ⟨rfl, rfl⟩)) | (go_at_call 52; refine (parts_impl _ _ h.1 h.2).mono ?_; rintro e w1 ⟨rfl, b1⟩) | go_in)
    go_quiet ((first | (go_at_call 53; exact quiet_left (dec_implN _ (n.natAbs / 100) _ rfl z5)) | (go_at_call 54; exact quiet_left (two_impl _ (n.natAbs % 100) _ rfl z6))))
    go_wp2
    go_ret
    have hz := b1.size
    exact ⟨ret_str (by rw [E.out]; rfl), (by repeat (first | assumption | exact Below.refl _ _ | (refine Below.setCell ?_ (by first | omega | (simp; done) | (simp; omega)) _) | apply below_drewN | apply Below.drew | (refine Below.alloc ?_ (by first | omega | (simp; done) | (simp; omega)) _)))⟩
  · have E := Lib.hid (show levelT n = ByteArray.empty from if_neg h)
    go_enter Tryz.func18, Tryz.ntmps18
    go_wp2_with (first | (go_at_call 32; first | (refine (within_t _ _ _ _ (by omega)).mono ?_; rintro e w' ⟨rfl, rfl⟩) | (refine (within_f _ _ _ _ (by omega)).mono ?_; rintro e w' ⟨rfl, rfl⟩)) | go_in)
    go_ret
    exact ⟨ret_str E.out.symm, Below.refl _ _⟩


end Go.Proofs.YthfemghfkfmkdaaGreatDoor
