/- What a listed package-level table gives: its cells; no function of the program in it. -/
import Derived.Test.YticbnahndidplaaDoorOpen
import Derived.LaidMore
import Derived.LaidHandle
import Derived.LaidLaws
import Derived.MakeChecks
import Derived.OpenVars
import Derived.FnData
import Derived.Stop.Joined
namespace Go.Proofs.YticbnahndidplaaDoor
open Go.Joins Go.ChangeShapes Go.WideShapes Go.ChangeAt Go.RowKit Go.Deep

theorem laid_arr {H : Type} {enc : TypeId × Value → H} {P : Program} {w : World} {base : Nat} {spare : Nat → Bool} {held : Bool} {fuel n : Nat} {t e : TypeId} {cs : List Value} {D : List (DataW H)} {q : List MemPlace}
    (ht : P.underlying t = some (.array n e)) (hc : P.cellsOf e = 1) (hct : P.cellsOf t = n) (h : DataW.trod enc P w base spare held fuel t cs = some (.agg D, q)) :
    ∀ (i : Nat) (d : DataW H), D[i]? = some d → ∃ (c : Value) (m : Nat) (ps : List MemPlace), cs[i]? = some c ∧ DataW.trod enc P w base spare held m e [c] = some (d, ps) := by
  obtain ⟨xs, m, _, hx, hlen, hn, hel⟩ := DataW.trod_array ht h
  simp only [Prod.mk.injEq, DataW.agg.injEq] at hx
  obtain ⟨hD, _⟩ := hx
  intro i d hd
  rw [hD, List.getElem?_map] at hd
  cases hxi : xs[i]? with
  | none => rw [hxi] at hd; simp at hd
  | some y =>
    rw [hxi] at hd
    have hy : y.1 = d := by simpa using hd
    have hi : i < n := by
      have := (List.getElem?_eq_some_iff.1 hxi).1
      omega
    have h1 := hel i hi
    rw [hxi, hc, Nat.mul_one] at h1
    have hlt : i < cs.length := by omega
    refine ⟨cs[i], m, y.2, List.getElem?_eq_getElem hlt, ?_⟩
    rw [List.drop_eq_getElem_cons hlt] at h1
    simp only [List.take_succ_cons, List.take_zero] at h1
    rw [h1, ← hy]

theorem laid_string {H : Type} {enc : TypeId × Value → H} {P : Program} {w : World} {base : Nat} {spare : Nat → Bool} {held : Bool} {m : Nat} {e : TypeId} {c : Value} {l : List UInt8} {ps : List MemPlace}
    (he : P.underlying e = some .string) (h : DataW.trod enc P w base spare held m e [c] = some (.lit (.string l), ps)) : c = .string ⟨l.toArray⟩ := by
  obtain ⟨s, hc, hx, _⟩ := DataW.trod_string he h
  simp only [List.cons.injEq, and_true] at hc
  simp only [Prod.mk.injEq, DataW.lit.injEq, Lit.string.injEq] at hx
  rw [hc, hx.1]

theorem laid_int {H : Type} {enc : TypeId × Value → H} {P : Program} {w : World} {base : Nat} {spare : Nat → Bool} {held : Bool} {m : Nat} {e : TypeId} {k : IntKind} {c : Value} {q : Int} {ps : List MemPlace}
    (he : P.underlying e = some (.int k)) (h : DataW.trod enc P w base spare held m e [c] = some (.lit (.int k q), ps)) : c = .int k q := by
  obtain ⟨s, hc, hx, _⟩ := DataW.trod_int he h
  simp only [List.cons.injEq, and_true] at hc
  simp only [Prod.mk.injEq, DataW.lit.injEq, Lit.int.injEq, true_and] at hx
  rw [hc, hx.1]

theorem laid_at {P : Program} {w : World} : ∀ {l : List (String × DataW Unit)} {ps : List MemPlace}, DataW.LaidVars P w l ps → ∀ (n : String) (d : DataW Unit), (n, d) ∈ l →
    ∃ (g : Nat) (t : TypeId) (cs : Array Value) (fuel : Nat) (p : List MemPlace), P.globalNamed n = some g ∧ (P.globals[g]?).map (·.type) = some t ∧ w.var? P n = some cs ∧ DataW.trod (fun _ => ()) P w 0 (fun _ => true) false fuel t cs.toList = some (d, p)
  | [], _, _, _, _, h => by cases h
  | (m, e) :: r, _, h, n, d, hm => by
    obtain ⟨g, t, cs, fuel, p, q, h1, h2, h3, h4, h5, _⟩ := h
    rcases List.mem_cons.1 hm with hm | hm
    · injection hm with e1 e2
      subst e1
      subst e2
      exact ⟨g, t, cs, fuel, p, h1, h2, h3, h4⟩
    · exact laid_at h5 n d hm


end Go.Proofs.YticbnahndidplaaDoor
