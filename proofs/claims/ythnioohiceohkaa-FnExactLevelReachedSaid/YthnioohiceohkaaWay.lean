/- The lowest cell next to a cell; the way down (plain mathematics; the program's helper). -/
import Derived.Test.YthnioohiceohkaaNear
namespace Go.Proofs.Ythnioohiceohkaa
open Go.RowKit

def hAt (xs : List Int) (y : Int) : Int := xs.getD y.toNat 0
def bestOf (xs : List Int) (x : Int) (ys : List Int) : Int := ys.foldl (fun b y => if hAt xs y < hAt xs b then y else b) x
theorem best_snoc (xs : List Int) (x : Int) (ys : List Int) (q : Nat) (hq : q < ys.length) :
    bestOf xs x (ys.take (q + 1)) = if hAt xs (ys.getD q 0) < hAt xs (bestOf xs x (ys.take q)) then ys.getD q 0 else bestOf xs x (ys.take q) := by
  unfold bestOf
  rw [List.take_succ_eq_append_getElem hq, List.foldl_append]
  simp [List.getD_eq_getElem?_getD, hq]
theorem best_mem (xs : List Int) (x n : Int) : ∀ (ys : List Int), (0 ≤ x ∧ x < n) → (∀ y ∈ ys, 0 ≤ y ∧ y < n) → 0 ≤ bestOf xs x ys ∧ bestOf xs x ys < n := by
  intro ys
  induction ys generalizing x with
  | nil => intro h _; exact h
  | cons y ys ih =>
    intro h hy
    show 0 ≤ bestOf xs (if hAt xs y < hAt xs x then y else x) ys ∧ bestOf xs (if hAt xs y < hAt xs x then y else x) ys < n
    refine ih _ ?_ (fun z hz => hy z (by simp [hz]))
    split
    · exact hy y (by simp)
    · exact h
theorem best_lt (xs : List Int) (x : Int) (ys : List Int) : bestOf xs x ys = x ∨ hAt xs (bestOf xs x ys) < hAt xs x := by
  induction ys generalizing x with
  | nil => exact .inl rfl
  | cons y ys ih =>
    show bestOf xs (if hAt xs y < hAt xs x then y else x) ys = x ∨ hAt xs (bestOf xs (if hAt xs y < hAt xs x then y else x) ys) < hAt xs x
    split
    · rename_i h
      rcases ih y with e | e
      · rw [e]; exact .inr h
      · exact .inr (by omega)
    · exact ih x
def wayT (r c : Int) (xs : List Int) : Nat → Int → List Int
  | 0, _ => []
  | f + 1, x => if bestOf xs x (near r c x) = x then [] else bestOf xs x (near r c x) :: wayT r c xs f (bestOf xs x (near r c x))
theorem wayT_len (r c : Int) (xs : List Int) (f : Nat) : ∀ x, (wayT r c xs f x).length ≤ f := by
  induction f with
  | zero => intro x; simp [wayT]
  | succ f ih =>
    intro x
    simp only [wayT]
    split
    · simp
    · have := ih (bestOf xs x (near r c x))
      simp only [List.length_cons]
      omega
def inC (n x : Int) : Prop := 0 ≤ x ∧ x ≤ n - 1
instance (n x : Int) : Decidable (inC n x) := by unfold inC; exact inferInstance

theorem hasCell_t (r c : Int) (A : Option Addr) (n k : Nat) (x : Int) (w : World) (hn : n ≤ 1048576) (v : Bool) (hv : decide (inC n x) = v) :
    Calls Try.prog 33 #[.agg #[.int .i64 r, .int .i64 c, .slice A n k], .int .i64 x] w fun e w' => e = .returned (.bool v) ∧ Below w.heap.size w w' := by
  have hv' : decide (0 ≤ x ∧ x ≤ (n : Int) - 1) = v := hv
  have HV := Lib.hid hv'
  clear hv hv'
  go_enter Try.func33, Try.ntmps33
  go_wp2_with (go_at_call 34; refine (within_any _ _ _ _).mono ?_; rintro e w' ⟨rfl, rfl⟩; rw [HV.out])
  go_ret
  exact ⟨rfl, (by repeat (first | assumption | exact Below.refl _ _ | (refine Below.setCell ?_ (by first | omega | (simp; done) | (simp; omega)) _) | apply below_drewN | apply Below.drew | (refine Below.alloc ?_ (by first | omega | (simp; done) | (simp; omega)) _)))⟩

end Go.Proofs.Ythnioohiceohkaa
