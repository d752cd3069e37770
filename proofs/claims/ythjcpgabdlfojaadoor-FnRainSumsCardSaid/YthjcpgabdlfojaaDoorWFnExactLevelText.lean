import Derived.Test.YthjcpgabdlfojaaDoorDecI
import Derived.Test.YthjcpgabdlfojaaDoorIn
namespace Go.Proofs.YthjcpgabdlfojaaDoor
open Go.RowKit

def dS (u : Nat) : ByteArray := ⟨(Lib.decDigits u).toArray⟩

theorem dS_len (u : Nat) (h : u ≤ 1000000000) : (dS u).size ≤ 10 := by
  show (Lib.decDigits u).length ≤ 10
  exact dec_len 9 u (by omega)

theorem dec_implN (x : Int) (u : Nat) (w : World) (hx : x = (u : Int)) (hu : u < 100) :
    Calls Tryd.prog 39 #[.int .i64 x] w fun e w' => e = .returned (.string (dS u)) ∧ w = w' := by
  subst hx
  have H := Lib.hid hu
  go_enter Tryd.func39, Tryd.ntmps39
  go_wp2_with (first | (go_at_call 90; refine (Tryd.internal_strconv_FormatInt_10_small u H.out _).mono ?_; rintro e w' ⟨rfl, rfl⟩) | go_in)
  go_ret
  exact ⟨rfl, rfl⟩

def signB (n : Int) : ByteArray := if n < 0 then ⟨#[45]⟩ else ⟨#[43]⟩
def levelB (n : Int) : ByteArray := signB n ++ dS (n.natAbs / 100) ++ ⟨#[46]⟩ ++ (dS (n.natAbs % 100 / 10) ++ dS (n.natAbs % 10)) ++ ⟨#[109]⟩

theorem size_spec (n : Int) (w : World) (h1 : -1000000000 ≤ n) (h2 : n ≤ 1000000000) :
    Calls Tryd.prog 84 #[.int .i64 n] w fun e w' => e = .returned (.int .i64 (n.natAbs : Int)) ∧ w = w' := by
  by_cases h : n < 0
  · go_enter Tryd.func84, Tryd.ntmps84
    go_wp2
    go_ret
    exact ⟨ret_int (by omega), rfl⟩
  · go_enter Tryd.func84, Tryd.ntmps84
    go_wp2
    go_ret
    exact ⟨ret_int (by omega), rfl⟩

def levelT (n : Int) : ByteArray := if -2000 ≤ n ∧ n ≤ 2000 then levelB n else ByteArray.empty

theorem signB_len (n : Int) : (signB n).size = 1 := by
  unfold signB
  split <;> rfl


end Go.Proofs.YthjcpgabdlfojaaDoor
