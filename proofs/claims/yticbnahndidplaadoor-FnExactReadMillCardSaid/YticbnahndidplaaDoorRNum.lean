/- readNumber of the program: the number of a word, 0 where there is none. -/
import Derived.Test.YticbnahndidplaaDoorNumI
namespace Go.Proofs.YticbnahndidplaaDoor
open Go.RowKit

theorem rnum_t (A : ByteArray) (v : Int) (b : Bool) (w : World) (na : Calls Tryd.prog 79 #[.string A] w fun e w' => e = .returned (.tuple #[.int .i64 v, .bool b]) ∧ Below w.heap.size w w') :
    Calls Tryd.prog 53 #[.string A] w fun e w' => e = .returned (.int .i64 v) ∧ Below w.heap.size w w' := by
  have NA := Lib.hid na
  clear na
  go_enter Tryd.func53, Tryd.ntmps53
  go_wp2_with (go_at_call 79; refine NA.out.mono ?_; rintro e1 w1 ⟨rfl, b1⟩)
  go_ret
  exact ⟨rfl, b1⟩

theorem rnum_all {A : ByteArray} {v : Int} {b : Bool} (na : ∀ W : World, NumEnv W → Calls Tryd.prog 79 #[.string A] W fun e w' => e = .returned (.tuple #[.int .i64 v, .bool b]) ∧ Below W.heap.size W w') :
    ∀ W : World, NumEnv W → Calls Tryd.prog 53 #[.string A] W fun e w' => e = .returned (.int .i64 v) ∧ Below W.heap.size W w' :=
  fun W hW => rnum_t A v b W (na W hW)

end Go.Proofs.YticbnahndidplaaDoor
