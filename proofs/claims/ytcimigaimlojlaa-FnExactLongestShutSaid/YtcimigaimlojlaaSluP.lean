/- Sluices: plain mathematics. -/
import Derived.Test.YtcimigaimlojlaaRGate
namespace Go.Proofs.Ytcimigaimlojlaa
open Go.RowKit

def slv (x : Int) : Prop := -2000 ≤ x ∧ x ≤ 2000
instance (x : Int) : Decidable (slv x) := by unfold slv; exact inferInstance
def slOk (wd sl : Int) : Prop := (1 ≤ wd ∧ wd ≤ 5000) ∧ slv sl
instance (wd sl : Int) : Decidable (slOk wd sl) := by unfold slOk; exact inferInstance
def gtOk (p m : Int) : Prop := (0 ≤ p ∧ p ≤ 1000000000) ∧ (0 ≤ m ∧ m ≤ 1000000)
instance (p m : Int) : Decidable (gtOk p m) := by unfold gtOk; exact inferInstance
def hdN (sl i o : Int) : Int := max 0 (i - max o sl)
def flN (wd sl i o : Int) : Int := wd * hdN sl i o / 10
theorem hdN_bd {sl i o : Int} (hi : slv i) (ho : slv o) (hs : slv sl) : 0 ≤ hdN sl i o ∧ hdN sl i o ≤ 4000 := by
  unfold hdN slv at *
  omega
theorem wdN_bd {wd sl i o : Int} (h : slOk wd sl) (hi : slv i) (ho : slv o) : 0 ≤ wd * hdN sl i o ∧ wd * hdN sl i o ≤ 20000000 := by
  obtain ⟨h1, h2⟩ := hdN_bd hi ho h.2
  have hw := h.1
  refine ⟨Int.mul_nonneg (by omega) h1, ?_⟩
  have := Int.mul_le_mul (show wd ≤ 5000 by omega) h2 h1 (by omega)
  omega
theorem flN_bd {wd sl i o : Int} (h : slOk wd sl) (hi : slv i) (ho : slv o) : 0 ≤ flN wd sl i o ∧ flN wd sl i o ≤ 2000000 := by
  have := wdN_bd h hi ho
  unfold flN
  omega

/-- whether the sluice is open behind an order -/
def opN (ord i o : Int) (op : Bool) : Bool := if ord = 2 ∨ i ≤ o then false else if ord = 1 then true else op
/-- the state behind an hour -/
def nxN (wd sl ord i o : Int) (g : RGate) : RGate :=
  ⟨opN ord i o g.f0, g.f1 + (if opN ord i o g.f0 = true then flN wd sl i o else 0), g.f2 + (if opN ord i o g.f0 = g.f0 then 0 else 1)⟩
def stC (wd sl ord i o : Int) (g : RGate) : Int := if ord = 1 ∧ i ≤ o then 10 else if gtOk (nxN wd sl ord i o g).f1 (nxN wd sl ord i o g).f2 then 0 else 5
/-- what an hour leads to: the state (nothing, where there is a code), and a code -/
def stG (wd sl ord i o : Int) (g : RGate) : RGate := if stC wd sl ord i o g = 0 then nxN wd sl ord i o g else zGate
def sc3 (v r : Prop) [Decidable v] [Decidable r] : Int := if v then (if r then 0 else 2) else 1
theorem sc3_ok {v r : Prop} [Decidable v] [Decidable r] (h1 : v) (h2 : r) : sc3 v r = 0 := by unfold sc3; rw [if_pos h1, if_pos h2]
theorem sc3_no {v r : Prop} [Decidable v] [Decidable r] (h1 : v) (h2 : ¬ r) : sc3 v r = 2 := by unfold sc3; rw [if_pos h1, if_neg h2]
theorem sc3_bad {v r : Prop} [Decidable v] [Decidable r] (h1 : ¬ v) : sc3 v r = 1 := by unfold sc3; rw [if_neg h1]
theorem sc3_ne {v r : Prop} [Decidable v] [Decidable r] (h : ¬ (v ∧ r)) : (sc3 v r == 0) = false := by
  unfold sc3
  by_cases h1 : v
  · rw [if_pos h1, if_neg (fun h2 => h ⟨h1, h2⟩)]; rfl
  · rw [if_neg h1]; rfl

end Go.Proofs.Ytcimigaimlojlaa
