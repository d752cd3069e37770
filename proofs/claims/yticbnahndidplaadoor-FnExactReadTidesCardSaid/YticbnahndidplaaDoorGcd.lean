/- Contracts of the two greatest common divisors (of the program and of the model), over numbers that are not negative. -/
import Derived.Test.YticbnahndidplaaDoorIn
namespace Go.Proofs.YticbnahndidplaaDoor
open Go.RowKit

theorem gcd_step (a b : Nat) : Nat.gcd b (a % b) = Nat.gcd a b := by
  rw [Nat.gcd_comm a b, Nat.gcd_rec b a, Nat.gcd_comm]
end Go.Proofs.YticbnahndidplaaDoor
