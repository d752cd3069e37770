/- Contracts of the fractions in lowest terms (of the program and of the model). -/
import Derived.Test.YthfemghfkfmkdaaGreatDoorGcd
namespace Go.Proofs.YthfemghfkfmkdaaGreatDoor
open Go.RowKit

def fgcd (num den : Int) : Nat := Nat.gcd num.natAbs den.toNat
def fnum (num den : Int) : Int := num.tdiv (fgcd num den : Int)
def fden (num den : Int) : Int := den / (fgcd num den : Int)
theorem fgcd_pos (num den : Int) (h : 1 ≤ den) : 1 ≤ (fgcd num den : Int) := by
  have : 0 < fgcd num den := Nat.gcd_pos_of_pos_right _ (by omega)
  omega

set_option maxHeartbeats 400000 in
theorem spec_size (n : Int) (w : World) (h1 : -1000000000 ≤ n) (h2 : n ≤ 1000000000) :
    Calls Tryz.prog 38 #[.int .i64 n] w fun e w' => e = .returned (.int .i64 (n.natAbs : Int)) ∧ w = w' := by
  by_cases h : n < 0
  · go_enter Tryz.func38, Tryz.ntmps38
    go_wp2
    go_ret
    exact ⟨ret_int (by omega), rfl⟩
  · go_enter Tryz.func38, Tryz.ntmps38
    go_wp2
    go_ret
    exact ⟨ret_int (by omega), rfl⟩

theorem fden_bd (num den : Int) (h : 1 ≤ den) : 0 ≤ den / (fgcd num den : Int) ∧ den / (fgcd num den : Int) ≤ den :=
  ⟨Int.ediv_nonneg (by omega) (by have := fgcd_pos num den h; omega), Int.ediv_le_self _ (by omega)⟩

set_option maxHeartbeats 400000 in
theorem spec_make (num den : Int) (w : World) (h1 : -1000000000 ≤ num) (h2 : num ≤ 1000000000) (h3 : 1 ≤ den) (h4 : den ≤ 1000000000) :
    Calls Tryz.prog 43 #[.int .i64 num, .int .i64 den] w fun e w' => e = .returned (.agg #[.int .i64 (fnum num den), .int .i64 (fden num den)]) ∧ Below w.heap.size w w' := by
  obtain ⟨d, rfl⟩ : ∃ d : Nat, den = d := ⟨den.toNat, by omega⟩
  have hg := fgcd_pos num d h3
  have hb := fden_bd num d h3
  obtain ⟨hb1, hb2⟩ := hb
  have hb3 : (d : Int) / (fgcd num d : Int) ≤ 1000000000 := by omega
  have hq : Nat.gcd num.natAbs d = fgcd num d := rfl
  have HQ := Lib.hid hq
  clear hq
  go_enter Tryz.func43, Tryz.ntmps43
  go_wp2_with (first
    | (go_at_call 38; refine (spec_size _ _ h1 h2).mono ?_; rintro e w' ⟨rfl, rfl⟩)
    | (go_at_call 71; refine (spec_gcd _ _ _ (by omega) (by omega)).mono ?_; rintro e w' ⟨rfl, rfl⟩; rw [HQ.out]))
  go_region
  go_wp2
  exact bodyPost_ret (v := .agg #[.int .i64 (fnum num d), .int .i64 (fden num d)]) (by simp [results, Tryz.results43, go_sem]; exact ⟨rfl, rfl⟩) rfl ⟨rfl, by repeat (first | exact Below.refl _ _ | (refine Below.setCell ?_ (by simp) _) | apply below_drewN | apply Below.drew | (refine Below.alloc ?_ (by simp) _))⟩

theorem fnum_pos (num den : Int) (h : 0 ≤ num) : num / (fgcd num den : Int) = fnum num den := by
  unfold fnum; rw [Int.tdiv_eq_ediv_of_nonneg h]
theorem fnum_neg (num den : Int) : num.tdiv (fgcd num den : Int) = fnum num den := rfl

theorem impl_gcdI (a : Int) (x b : Nat) (w : World) (hx : a = (x : Int)) (ha : x ≤ 1000000000) (hb : b ≤ 1000000000) :
    Calls Tryz.prog 70 #[.int .i64 a, .int .i64 (b : Int)] w fun e w' => e = .returned (.int .i64 ((Nat.gcd x b : Nat) : Int)) ∧ ∃ n, w' = w.drewN n := by
  subst hx
  exact impl_gcd x b w ha hb

set_option maxHeartbeats 400000 in
theorem impl_lowest (num den : Int) (w : World) (h1 : -1000000000 ≤ num) (h2 : num ≤ 1000000000) (h3 : 1 ≤ den) (h4 : den ≤ 1000000000) :
    Calls Tryz.prog 41 #[.int .i64 num, .int .i64 den] w fun e w' => e = .returned (.agg #[.int .i64 (fnum num den), .int .i64 (fden num den)]) ∧ Below w.heap.size w w' := by
  obtain ⟨d, rfl⟩ : ∃ d : Nat, den = d := ⟨den.toNat, by omega⟩
  have hg := fgcd_pos num d h3
  have hb := fden_bd num d h3
  obtain ⟨hb1, hb2⟩ := hb
  have hb3 : (d : Int) / (fgcd num d : Int) ≤ 1000000000 := by omega
  have hq : Nat.gcd num.natAbs d = fgcd num d := rfl
  have HQ := Lib.hid hq
  clear hq
  by_cases hs : 0 ≤ num
  all_goals
    go_enter Tryz.func41, Tryz.ntmps41
    go_wp2_with (go_at_call 70; refine (impl_gcdI _ num.natAbs _ _ (by omega) (by omega) (by omega)).mono ?_; rintro e w' ⟨rfl, n, rfl⟩; rw [HQ.out])
    go_region
    go_wp2
    exact bodyPost_ret (v := .agg #[.int .i64 (fnum num d), .int .i64 (fden num d)]) (by simp [results, Tryz.results41, go_sem]; exact ⟨by first | exact fnum_pos _ _ hs | exact fnum_neg _ _, rfl⟩) rfl ⟨rfl, by repeat (first | exact Below.refl _ _ | (refine Below.setCell ?_ (by simp) _) | apply below_drewN | apply Below.drew | (refine Below.alloc ?_ (by simp) _))⟩


end Go.Proofs.YthfemghfkfmkdaaGreatDoor
