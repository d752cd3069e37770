/- Rows of sections of the call's own: one more is appended; the record at a place. -/
import Derived.Test.YticbnahndidplaaDoorCloneR
import Derived.Test.YticbnahndidplaaDoorCutP
import Derived.Test.YticbnahndidplaaDoorOwnS
namespace Go.Proofs.YticbnahndidplaaDoor
open Go.RowKit

theorem Rd_Section.at' {w : World} {B n b o k : Nat} {xs : List RSection} (h : Rd_Section w B (some ⟨b, o, none⟩) n xs) (hk : k < n) : AtSection w b (o + k * 2) (xs.getD k zSection) ∧ b < B := by
  obtain ⟨b', o', e, hB, hc⟩ := h.at (by omega)
  injection e with e
  injection e with e1 e2
  subst e1
  subst e2
  exact ⟨hc k hk, hB⟩
theorem Wr_Section.at' {w : World} {lo n b o k : Nat} {xs : List RSection} (h : Wr_Section w lo (some ⟨b, o, none⟩) n xs) (hk : k < n) : AtSection w b (o + k * 2) (xs.getD k zSection) ∧ FzSection w b (o + k * 2) := by
  obtain ⟨b', o', e, _, hB, hc⟩ := h.at (by omega)
  injection e with e
  injection e with e1 e2
  subst e1
  subst e2
  exact hc k hk
theorem own_at {w : World} {base n cap g k : Nat} {xs : List RSection} (h : w.ownsRow base 62 2 (.slice (some ⟨g, 0, none⟩) n cap) n (csSection xs)) (hk : k < n) : AtSection w g (k * 2) (xs.getD k zSection) ∧ FzSection w g (k * 2) := by
  obtain ⟨A', c', eA, hw⟩ := own_wrSection h
  injection eA with eA _ _
  subst eA
  have := hw.at' hk
  simpa only [Nat.zero_add] using this
theorem csS_set (xs : List RSection) (k : Nat) (h : k < xs.length) (x : RSection) : csSection (xs.set k x) = ((csSection xs).set (k * 2) (.int .i64 x.f0)).set (k * 2 + 1) (.int .i64 x.f1) := by
  induction xs generalizing k with
  | nil => simp at h
  | cons y xs ih =>
    cases k with
    | zero => rfl
    | succ k =>
      rw [List.set_cons_succ, csS_cons, csS_cons, show (k + 1) * 2 + 1 = k * 2 + 1 + 1 + 1 by omega, show (k + 1) * 2 = k * 2 + 1 + 1 by omega, List.set_cons_succ, List.set_cons_succ, List.set_cons_succ, List.set_cons_succ]
      have := ih k (by simpa using h)
      rw [← this]
theorem own_put {w : World} {base n cap g k : Nat} {e : TypeId} {xs : List RSection} (h : w.ownsRow base e 2 (.slice (some ⟨g, 0, none⟩) n cap) n (csSection xs)) (hk : k < xs.length) (x0 x1 : Int) :
    ((w.setCell ⟨g, k * 2, none⟩ (.int .i64 x0)).setCell ⟨g, k * 2 + 1, none⟩ (.int .i64 x1)).ownsRow base e 2 (.slice (some ⟨g, 0, none⟩) n cap) n (csSection (xs.set k ⟨x0, x1⟩)) := by
  rw [csS_set xs k hk ⟨x0, x1⟩]; exact own_set (own_set h _) _
theorem rd_newS (W : World) (x0 x1 : Int) (k : Nat) (hk : W.heap.size = k) : Rd_Section (W.alloc (.cells #[.int .i64 x0, .int .i64 x1] 62)) (k + 1) (some ⟨k, 0, none⟩) 1 [⟨x0, x1⟩] := by
  subst hk
  exact ⟨by simp [csSection, encSection], fun _ => ⟨W.heap.size, 0, rfl, by omega, fun j _ => by
    rw [Nat.zero_add]
    refine (World.cell?_alloc_new (w := W) #[.int .i64 x0, .int .i64 x1] 62 j).trans ?_
    simp [csSection, encSection]⟩⟩

set_option maxRecDepth 100000 in
theorem wplApp1S {ops : Array Oper} {rest : List Oper} {o : Oper} {a : Act} {Q : Exit → Act → World → Prop} (hgd : o.guard = none) (s x : Operand)
    (ho : o.op = .call { callee := .builtin .append, args := #[s, x], argTypes := #[25, 25] }) (W : World) (k : Nat) (hk : W.heap.size = k) (base n : Nat) (v : Value) (xs : List RSection) (x0 x1 : Int)
    (hs : a.eval s = v) (hown : W.ownsRow base 62 2 v n (csSection xs)) (hx : a.eval x = .slice (some ⟨k, 0, none⟩) 1 1) (hn : n ≤ 1048576) (hbase : base ≤ W.heap.size)
    (h : ∀ v' w', w'.ownsRow base 62 2 v' (n + 1) (csSection (xs ++ [⟨x0, x1⟩])) → Below base W w' → W.heap.size ≤ w'.heap.size → wpList Tryd.prog ops Q rest (a.put o.dst v') w') :
    wpList Tryd.prog ops Q (o :: rest) a (W.alloc (.cells #[.int .i64 x0, .int .i64 x1] 62)) := by
  refine wplAppSection hgd s x ho _ base n 1 1 (k + 1) (some ⟨k, 0, none⟩) v (csSection xs) [⟨x0, x1⟩] hs (owns_below hown ((Below.refl _ _).alloc (Nat.le_refl _) _)) hx (rd_newS W x0 x1 k hk) (by omega) (by simp; omega) ?_
  intro v' w' h1 h2 h3
  refine h v' w' (by rw [csSection_app]; exact h1) (((Below.refl _ _).alloc hbase _).trans h2) (Nat.le_trans (by simp) h3)

theorem jnN_one (xs : List RSection) : jnN xs 1 = [xs.getD 0 zSection] := by simp [jnN, jnStep]
theorem jnN_in {xs : List RSection} {k m : Nat} (hl : (jnN xs k).length = m + 1) (h1 : ((jnN xs k).getD m zSection).f1 = (xs.getD k zSection).f1) (h2 : ((jnN xs k).getD m zSection).f0 + (xs.getD k zSection).f0 ≤ 10000) : jnN xs (k + 1) = (jnN xs k).set m ⟨((jnN xs k).getD m zSection).f0 + (xs.getD k zSection).f0, ((jnN xs k).getD m zSection).f1⟩ := by
  show jnStep _ _ = _
  unfold jnStep
  rw [hl, Nat.add_sub_cancel, if_pos ⟨by omega, h1, h2⟩]
theorem jnN_out {xs : List RSection} {k m : Nat} (hl : (jnN xs k).length = m + 1) (h : ¬ (((jnN xs k).getD m zSection).f1 = (xs.getD k zSection).f1 ∧ ((jnN xs k).getD m zSection).f0 + (xs.getD k zSection).f0 ≤ 10000)) : jnN xs (k + 1) = jnN xs k ++ [xs.getD k zSection] := by
  show jnStep _ _ = _
  unfold jnStep
  rw [hl, Nat.add_sub_cancel, if_neg (fun x => h x.2)]
theorem jnN_nil {xs : List RSection} {k : Nat} (hl : (jnN xs k).length = 0) : jnN xs (k + 1) = jnN xs k ++ [xs.getD k zSection] := by
  show jnStep _ _ = _
  unfold jnStep
  rw [hl, if_neg (fun x => absurd x.1 (by omega))]

end Go.Proofs.YticbnahndidplaaDoor
