/- Boxes of lands that may be written; raised heights. -/
import Derived.Test.YthnioohiceohkaaLandO
import Derived.Test.YthnioohiceohkaaLandW
import Derived.StillTailTactics
namespace Go.Proofs.Ythnioohiceohkaa
open Go.RowKit

theorem Wr.at {w : World} {lo b o n q : Nat} {xs : List Int} (h : Wr w lo (some ⟨b, o, none⟩) n xs) (hq : q < n) : w.cell? ⟨b, o + q, none⟩ = some (.int .i64 (xs.getD q 0)) ∧ w.frozen? ⟨b, o + q, none⟩ = false := by
  obtain ⟨b', o', e, _, _, hc⟩ := h.2 (by omega)
  injection e with e
  injection e with e1 e2
  subst e1
  subst e2
  exact hc q hq

structure LandBox (w : World) (b : Nat) (r c : Int) (A : Option Addr) (n k : Nat) : Prop where
  c0 : w.cell? ⟨b, 0, none⟩ = some (.int .i64 r)
  c1 : w.cell? ⟨b, 1, none⟩ = some (.int .i64 c)
  c2 : w.cell? ⟨b, 2, none⟩ = some (.slice A n k)
  f0 : w.frozen? ⟨b, 0, none⟩ = false
  f1 : w.frozen? ⟨b, 1, none⟩ = false
  f2 : w.frozen? ⟨b, 2, none⟩ = false
theorem LandBox.at {w : World} {b : Nat} {r c : Int} {A : Option Addr} {n k : Nat} (h : LandBox w b r c A n k) : LandAt w b r c A n k := ⟨h.c0, h.c1, h.c2⟩
theorem LandBox.below {w w' : World} {b B : Nat} {r c : Int} {A : Option Addr} {n k : Nat} (h : LandBox w b r c A n k) (hb : Below B w w') (hB : b < B) : LandBox w' b r c A n k :=
  ⟨(hb.cell (p := ⟨b, 0, none⟩) hB).trans h.c0, (hb.cell (p := ⟨b, 1, none⟩) hB).trans h.c1, (hb.cell (p := ⟨b, 2, none⟩) hB).trans h.c2, (hb.frozen (p := ⟨b, 0, none⟩) hB).trans h.f0, (hb.frozen (p := ⟨b, 1, none⟩) hB).trans h.f1, (hb.frozen (p := ⟨b, 2, none⟩) hB).trans h.f2⟩
theorem LandBox.set {w : World} {b : Nat} {r c : Int} {A : Option Addr} {n k : Nat} (h : LandBox w b r c A n k) {a : Addr} (ha : b ≠ a.block) (u : Value) : LandBox (w.setCell a u) b r c A n k := by
  have hk := Below.heap_setCell w a u b ha
  exact ⟨(World.cell?_of_block (w := w) (a := ⟨b, 0, none⟩) hk).trans h.c0, (World.cell?_of_block (w := w) (a := ⟨b, 1, none⟩) hk).trans h.c1, (World.cell?_of_block (w := w) (a := ⟨b, 2, none⟩) hk).trans h.c2, (World.frozen?_of_block (w := w) (a := ⟨b, 0, none⟩) hk).trans h.f0, (World.frozen?_of_block (w := w) (a := ⟨b, 1, none⟩) hk).trans h.f1, (World.frozen?_of_block (w := w) (a := ⟨b, 2, none⟩) hk).trans h.f2⟩
theorem LandBox.drewN {w : World} {b : Nat} {r c : Int} {A : Option Addr} {n k : Nat} (h : LandBox w b r c A n k) (m : Nat) : LandBox (w.drewN m) b r c A n k := ⟨h.c0, h.c1, h.c2, h.f0, h.f1, h.f2⟩

theorem LandBox.drew {w : World} {b : Nat} {r c : Int} {A : Option Addr} {n k : Nat} (h : LandBox w b r c A n k) : LandBox w.drew b r c A n k := ⟨h.c0, h.c1, h.c2, h.f0, h.f1, h.f2⟩

/-- the first q heights are raised -/
def raise (y : Int) (xs : List Int) : Nat → List Int
  | 0 => xs
  | q + 1 => (raise y xs q).set q (max (xs.getD q 0) y)
theorem raise_len (y : Int) (xs : List Int) (q : Nat) : (raise y xs q).length = xs.length := by
  induction q with
  | zero => rfl
  | succ q ih => simp [raise, ih]
theorem raise_at (y : Int) (xs : List Int) (q : Nat) (hq : q ≤ xs.length) : ∀ j, (raise y xs q).getD j 0 = if j < q then max (xs.getD j 0) y else xs.getD j 0 := by
  induction q with
  | zero => intro j; rfl
  | succ q ih =>
    intro j
    show ((raise y xs q).set q (max (xs.getD q 0) y)).getD j 0 = _
    rw [getD_set _ _ _ _ (by rw [raise_len]; omega), ih (by omega) j]
    by_cases e : j = q
    · subst e; rw [if_pos rfl, if_pos (by omega)]
    · rw [if_neg e]
      by_cases h : j < q
      · rw [if_pos h, if_pos (by omega)]
      · rw [if_neg h, if_neg (by omega)]
theorem raise_all (y : Int) (xs : List Int) : raise y xs xs.length = xs.map (fun x => max x y) := by
  apply ext_getD
  · simp [raise_len]
  · intro j hj
    rw [raise_len] at hj
    rw [raise_at y xs xs.length (Nat.le_refl _) j, if_pos hj]
    simp [List.getD_eq_getElem?_getD, hj]

end Go.Proofs.Ythnioohiceohkaa
