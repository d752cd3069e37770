/- Rows of records of type Tide of the call's own. -/
import Derived.Test.YticbnahndidplaaDoorCatTide
import Derived.Test.YticbnahndidplaaDoorOwnG
import Derived.WalkSpells
namespace Go.Proofs.YticbnahndidplaaDoor
open Go.RowKit

theorem getTide (xs : List RTide) (k : Nat) : ∃ x, x = xs.getD k zTide := ⟨_, rfl⟩

theorem ext_Tide {xs ys : List RTide} (hl : xs.length = ys.length) (h : ∀ j, j < xs.length → xs.getD j zTide = ys.getD j zTide) : xs = ys := by
  apply List.ext_getElem hl
  intro j h1 h2
  have := h j h1
  rwa [getDTide h1, getDTide h2] at this

theorem csTide_cons (x : RTide) (xs : List RTide) : csTide (x :: xs) = .int .i64 x.f0 :: .int .i64 x.f1 :: csTide xs := rfl

theorem csTide_set0 (xs : List RTide) (k : Nat) (h : k < xs.length) (y : Int) : csTide (xs.set k ⟨y, (xs.getD k zTide).f1⟩) = (csTide xs).set (k * 2) (.int .i64 y) := by
  induction xs generalizing k with
  | nil => simp at h
  | cons x xs ih =>
    cases k with
    | zero => rfl
    | succ k =>
      rw [List.set_cons_succ, csTide_cons, csTide_cons, show (k + 1) * 2 = k * 2 + 1 + 1 by omega, List.set_cons_succ, List.set_cons_succ]
      have := ih k (by simpa using h)
      rw [← this]
      rfl

theorem csTide_set1 (xs : List RTide) (k : Nat) (h : k < xs.length) (y : Int) : csTide (xs.set k ⟨(xs.getD k zTide).f0, y⟩) = (csTide xs).set (k * 2 + 1) (.int .i64 y) := by
  induction xs generalizing k with
  | nil => simp at h
  | cons x xs ih =>
    cases k with
    | zero => rfl
    | succ k =>
      rw [List.set_cons_succ, csTide_cons, csTide_cons, show (k + 1) * 2 + 1 = k * 2 + 1 + 1 + 1 by omega, List.set_cons_succ, List.set_cons_succ]
      have := ih k (by simpa using h)
      rw [← this]
      rfl

/-- one field of a record of one's own is stored -/
theorem Wr_Tide.put0 {w : World} {lo b o n k : Nat} {xs : List RTide} (h : Wr_Tide w lo (some ⟨b, o, none⟩) n xs) (hk : k < n) (y : Int) : Wr_Tide (w.setCell ⟨b, o + k * 2, none⟩ (.int .i64 y)) lo (some ⟨b, o, none⟩) n (xs.set k ⟨y, (xs.getD k zTide).f1⟩) := by
  have hl := h.len
  unfold Wr_Tide
  rw [csTide_set0 xs k (by omega) y]
  exact WrC.put h (by rw [csTide_len]; omega) _

theorem Wr_Tide.put1 {w : World} {lo b o n k : Nat} {xs : List RTide} (h : Wr_Tide w lo (some ⟨b, o, none⟩) n xs) (hk : k < n) (y : Int) : Wr_Tide (w.setCell ⟨b, o + k * 2 + 1, none⟩ (.int .i64 y)) lo (some ⟨b, o, none⟩) n (xs.set k ⟨(xs.getD k zTide).f0, y⟩) := by
  have hl := h.len
  unfold Wr_Tide
  rw [csTide_set1 xs k (by omega) y]
  exact WrC.put (i := k * 2 + 1) h (by rw [csTide_len]; omega) _

theorem own_set0Tide {w : World} {base n cap g k : Nat} {e : TypeId} {xs : List RTide} (h : w.ownsRow base e 2 (.slice (some ⟨g, 0, none⟩) n cap) n (csTide xs)) (hk : k < xs.length) (y : Int) :
    (w.setCell ⟨g, k * 2, none⟩ (.int .i64 y)).ownsRow base e 2 (.slice (some ⟨g, 0, none⟩) n cap) n (csTide (xs.set k ⟨y, (xs.getD k zTide).f1⟩)) := by
  rw [csTide_set0 xs k hk y]; exact own_set h _

theorem own_set1Tide {w : World} {base n cap g k : Nat} {e : TypeId} {xs : List RTide} (h : w.ownsRow base e 2 (.slice (some ⟨g, 0, none⟩) n cap) n (csTide xs)) (hk : k < xs.length) (y : Int) :
    (w.setCell ⟨g, k * 2 + 1, none⟩ (.int .i64 y)).ownsRow base e 2 (.slice (some ⟨g, 0, none⟩) n cap) n (csTide (xs.set k ⟨(xs.getD k zTide).f0, y⟩)) := by
  rw [csTide_set1 xs k hk y]; exact own_set h _

theorem Rd_Tide.take {w : World} {B n : Nat} {A : Option Addr} {xs : List RTide} (h : Rd_Tide w B A n xs) {k : Nat} (hk : k ≤ n) : Rd_Tide w B A k (xs.take k) := by
  have hl := h.len
  unfold Rd_Tide csTide
  rw [flat_take' encTide_len xs k (by omega)]
  exact RdC.take' h hk

theorem Rd_Tide.drop {w : World} {B n b o : Nat} {xs : List RTide} (h : Rd_Tide w B (some ⟨b, o, none⟩) n xs) {k : Nat} (hk : k ≤ n) : Rd_Tide w B (some ⟨b, o + k * 2, none⟩) (n - k) (xs.drop k) := by
  have hl := h.len
  unfold Rd_Tide csTide
  rw [flat_drop' encTide_len xs k (by omega)]
  exact RdC.drop' h hk

theorem Rd_Tide.at' {w : World} {B n b o k : Nat} {xs : List RTide} (h : Rd_Tide w B (some ⟨b, o, none⟩) n xs) (hk : k < n) : AtTide w b (o + k * 2) (xs.getD k zTide) ∧ b < B := by
  obtain ⟨b', o', e, hB, hc⟩ := h.at (by omega)
  injection e with e
  injection e with e1 e2
  subst e1
  subst e2
  exact ⟨hc k hk, hB⟩

theorem Wr_Tide.at' {w : World} {lo n b o k : Nat} {xs : List RTide} (h : Wr_Tide w lo (some ⟨b, o, none⟩) n xs) (hk : k < n) : AtTide w b (o + k * 2) (xs.getD k zTide) ∧ FzTide w b (o + k * 2) := by
  obtain ⟨b', o', e, _, hB, hc⟩ := h.at (by omega)
  injection e with e
  injection e with e1 e2
  subst e1
  subst e2
  exact hc k hk

theorem own_atTide {w : World} {base n cap g k : Nat} {xs : List RTide} (h : w.ownsRow base 69 2 (.slice (some ⟨g, 0, none⟩) n cap) n (csTide xs)) (hk : k < n) : AtTide w g (k * 2) (xs.getD k zTide) ∧ FzTide w g (k * 2) := by
  obtain ⟨A', c', eA, hw⟩ := own_wrTide h
  injection eA with eA _ _
  subst eA
  have := hw.at' hk
  simpa only [Nat.zero_add] using this

theorem csTide_set (xs : List RTide) (k : Nat) (h : k < xs.length) (x : RTide) : csTide (xs.set k x) = ((csTide xs).set (k * 2) (.int .i64 x.f0)).set (k * 2 + 1) (.int .i64 x.f1) := by
  induction xs generalizing k with
  | nil => simp at h
  | cons y xs ih =>
    cases k with
    | zero => rfl
    | succ k =>
      rw [List.set_cons_succ, csTide_cons, csTide_cons, show (k + 1) * 2 + 1 = k * 2 + 1 + 1 + 1 by omega, show (k + 1) * 2 = k * 2 + 1 + 1 by omega, List.set_cons_succ, List.set_cons_succ, List.set_cons_succ, List.set_cons_succ]
      have := ih k (by simpa using h)
      rw [← this]

theorem own_putTide {w : World} {base n cap g k : Nat} {e : TypeId} {xs : List RTide} (h : w.ownsRow base e 2 (.slice (some ⟨g, 0, none⟩) n cap) n (csTide xs)) (hk : k < xs.length) (x0 x1 : Int) :
    ((w.setCell ⟨g, k * 2, none⟩ (.int .i64 x0)).setCell ⟨g, k * 2 + 1, none⟩ (.int .i64 x1)).ownsRow base e 2 (.slice (some ⟨g, 0, none⟩) n cap) n (csTide (xs.set k ⟨x0, x1⟩)) := by
  rw [csTide_set xs k hk ⟨x0, x1⟩]; exact own_set (own_set h _) _

theorem rd_newTide (W : World) (x0 x1 : Int) (k : Nat) (hk : W.heap.size = k) : Rd_Tide (W.alloc (.cells #[.int .i64 x0, .int .i64 x1] 69)) (k + 1) (some ⟨k, 0, none⟩) 1 [⟨x0, x1⟩] := by
  subst hk
  exact ⟨by simp [csTide, encTide], fun _ => ⟨W.heap.size, 0, rfl, by omega, fun j _ => by
    rw [Nat.zero_add]
    refine (World.cell?_alloc_new (w := W) #[.int .i64 x0, .int .i64 x1] 69 j).trans ?_
    simp [csTide, encTide]⟩⟩

set_option maxRecDepth 100000 in
theorem wplApp1Tide {ops : Array Oper} {rest : List Oper} {o : Oper} {a : Act} {Q : Exit → Act → World → Prop} (hgd : o.guard = none) (s x : Operand)
    (ho : o.op = .call { callee := .builtin .append, args := #[s, x], argTypes := #[30, 30] }) (W : World) (k : Nat) (hk : W.heap.size = k) (base n : Nat) (v : Value) (xs : List RTide) (x0 x1 : Int)
    (hs : a.eval s = v) (hown : W.ownsRow base 69 2 v n (csTide xs)) (hx : a.eval x = .slice (some ⟨k, 0, none⟩) 1 1) (hn : n ≤ 1048576) (hbase : base ≤ W.heap.size)
    (h : ∀ v' w', w'.ownsRow base 69 2 v' (n + 1) (csTide (xs ++ [⟨x0, x1⟩])) → Below base W w' → W.heap.size ≤ w'.heap.size → wpList Tryd.prog ops Q rest (a.put o.dst v') w') :
    wpList Tryd.prog ops Q (o :: rest) a (W.alloc (.cells #[.int .i64 x0, .int .i64 x1] 69)) := by
  refine wplAppTide hgd s x ho _ base n 1 1 (k + 1) (some ⟨k, 0, none⟩) v (csTide xs) [⟨x0, x1⟩] hs (owns_below hown ((Below.refl _ _).alloc (Nat.le_refl _) _)) hx (rd_newTide W x0 x1 k hk) (by omega) (by simp; omega) ?_
  intro v' w' h1 h2 h3
  refine h v' w' (by rw [csTide_app]; exact h1) (((Below.refl _ _).alloc hbase _).trans h2) (Nat.le_trans (by simp) h3)
end Go.Proofs.YticbnahndidplaaDoor
