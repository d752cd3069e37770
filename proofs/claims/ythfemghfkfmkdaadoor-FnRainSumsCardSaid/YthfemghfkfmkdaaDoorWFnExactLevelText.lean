import Derived.Test.YthfemghfkfmkdaaDoorDecI
import Derived.Test.YthfemghfkfmkdaaDoorIn
namespace Go.Proofs.YthfemghfkfmkdaaDoor
open Go.RowKit

def dS (u : Nat) : ByteArray := ⟨(Lib.decDigits u).toArray⟩

theorem dS_len (u : Nat) (h : u ≤ 1000000000) : (dS u).size ≤ 10 := by
  show (Lib.decDigits u).length ≤ 10
  exact dec_len 9 u (by omega)

theorem dec_implN (x : Int) (u : Nat) (w : World) (hx : x = (u : Int)) (hu : u < 100) :
    Calls Tryd.prog 23 #[.int .i64 x] w fun e w' => e = .returned (.string (dS u)) ∧ w = w' := by
  subst hx
  have H := Lib.hid hu
  go_enter Tryd.func23, Tryd.ntmps23
  go_wp2_with (first | (go_at_call 38; refine (Tryd.internal_strconv_FormatInt_10_small u H.out _).mono ?_; rintro e w' ⟨rfl, rfl⟩) | go_in)
  go_ret
  exact ⟨rfl, rfl⟩

def signB (n : Int) : ByteArray := if n < 0 then ⟨#[45]⟩ else ⟨#[43]⟩
def levelB (n : Int) : ByteArray := signB n ++ dS (n.natAbs / 100) ++ ⟨#[46]⟩ ++ (dS (n.natAbs % 100 / 10) ++ dS (n.natAbs % 10)) ++ ⟨#[109]⟩

def levelT (n : Int) : ByteArray := if -2000 ≤ n ∧ n ≤ 2000 then levelB n else ByteArray.empty

theorem signB_len (n : Int) : (signB n).size = 1 := by
  unfold signB
  split <;> rfl


end Go.Proofs.YthfemghfkfmkdaaDoor
