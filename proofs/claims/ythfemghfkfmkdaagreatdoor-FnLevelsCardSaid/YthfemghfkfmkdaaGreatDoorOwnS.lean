/- Copies: l00Own of the model, slices.Clone; appends of one number. -/
import Derived.Test.YthfemghfkfmkdaaGreatDoorReg
import Derived.Deep.RegionHeld3
namespace Go.Proofs.YthfemghfkfmkdaaGreatDoor
open Go.RowKit

theorem owns_made {W : World} {k base : Nat} {e : TypeId} (hk : W.heap.size = k) (hb : base ≤ k) : (W.alloc (.cells #[] e)).ownsRow base e 1 (.slice (some ⟨k, 0, none⟩) 0 0) 0 [] := by
  subst hk
  exact World.ownsRow_made _ _ _ hb (by simp [maxLen]) rfl

theorem owns_one {W : World} {base : Nat} {e : TypeId} (hb : base ≤ W.heap.size) (y : Int) : (W.alloc (.cells #[.int .i64 y] e)).ownsRow base e 1 (.slice (some ⟨W.heap.size, 0, none⟩) 1 1) 1 [.int .i64 y] :=
  ⟨rfl, .inr ⟨W.heap.size, 1, #[.int .i64 y], rfl, hb, heap_alloc_new W _, Nat.le_refl _, by simp [maxLen], rfl, rfl⟩⟩
theorem owns_one_k {W : World} {k base : Nat} {e : TypeId} (hk : W.heap.size = k) (hb : base ≤ k) (y : Int) : (W.alloc (.cells #[.int .i64 y] e)).ownsRow base e 1 (.slice (some ⟨k, 0, none⟩) 1 1) 1 [.int .i64 y] := by
  subst hk
  exact owns_one hb y
theorem owns_below {w w' : World} {base n size : Nat} {e : TypeId} {v : Value} {xs : List Value} (h : w.ownsRow base e size v n xs) (hb : Below w.heap.size w w') : w'.ownsRow base e size v n xs :=
  h.kept (gb_of_below hb none) (by cases hv : v.ownBlock <;> simp)

/-- 'append(v, x...)' onto a row of the call's own. -/
theorem wpl_appN {ops : Array Oper} {rest : List Oper} {o : Oper} {a : Act} {Q : Exit → Act → World → Prop} (hgd : o.guard = none) (s x : Operand)
    (ho : o.op = .call { callee := .builtin .append, args := #[s, x], argTypes := #[24, 24] }) (W : World) (base n m c : Nat) (A : Addr) (v : Value) (xs ys : List Int)
    (hs : a.eval s = v) (hown : W.ownsRow base 2 1 v n (xs.map (Value.int .i64))) (hx : a.eval x = .slice (some A) m c) (hA : Rd W W.heap.size (some A) m ys) (hm : 0 < m) (hn : n + m ≤ 4194304) (hbase : base ≤ W.heap.size)
    (h : ∀ v' w', w'.ownsRow base 2 1 v' (n + m) ((xs ++ ys).map (Value.int .i64)) → Below base W w' → W.heap.size ≤ w'.heap.size → wpList Tryz.prog ops Q rest (a.put o.dst v') w') :
    wpList Tryz.prog ops Q (o :: rest) a W := by
  obtain ⟨i0, hi, hz0, hz1, hz2⟩ := info_parts info_i64
  obtain ⟨hl, hr⟩ := hA
  obtain ⟨b, off, e, hb, hc⟩ := hr hm
  injection e with e
  subst e
  refine wpList_append_own (P := Tryz.prog) _ hgd s x 24 ho base 2 i0 (.int .i64 0) 1 8 Tryz.underlying24 hi hz0 hz1 hz2 rfl (by decide) v n (xs.map (Value.int .i64)) hs hown ⟨b, off, none⟩ m c (ys.map (Value.int .i64)) hx (by simp [hl]) ?_ ?_ (by simp only [maxLen]; omega) (by omega) hbase ?_
  · intro j u hj
    rw [addr_add]
    rw [List.getElem?_map] at hj
    cases hy : ys[j]? with
    | none => rw [hy] at hj; simp at hj
    | some y =>
      rw [hy] at hj
      have hj' : j < ys.length := (List.getElem?_eq_some_iff.1 hy).1
      rw [hc j (by omega), List.getD_eq_getElem?_getD, hy]
      simpa using hj
  · intro u hu
    simp at hu
    obtain ⟨y, _, rfl⟩ := hu
    rfl
  · intro v' w' h1 h2 _
    have hb := below_row hown h2 hbase
    exact h v' w' (by simpa using h1) hb h2.size

/-- the same where nothing is appended -/
theorem wpl_app0 {ops : Array Oper} {rest : List Oper} {o : Oper} {a : Act} {Q : Exit → Act → World → Prop} (hgd : o.guard = none) (s x : Operand)
    (ho : o.op = .call { callee := .builtin .append, args := #[s, x], argTypes := #[24, 24] }) (W : World) (base n c : Nat) (A : Addr) (v : Value) (xs : List Int)
    (hs : a.eval s = v) (hown : W.ownsRow base 2 1 v n (xs.map (Value.int .i64))) (hx : a.eval x = .slice (some A) 0 c) (hn : n ≤ 4194304) (hbase : base ≤ W.heap.size)
    (h : ∀ v' w', w'.ownsRow base 2 1 v' n (xs.map (Value.int .i64)) → Below base W w' → W.heap.size ≤ w'.heap.size → wpList Tryz.prog ops Q rest (a.put o.dst v') w') :
    wpList Tryz.prog ops Q (o :: rest) a W := by
  obtain ⟨i0, hi, hz0, hz1, hz2⟩ := info_parts info_i64
  refine wpList_append_own (P := Tryz.prog) _ hgd s x 24 ho base 2 i0 (.int .i64 0) 1 8 Tryz.underlying24 hi hz0 hz1 hz2 rfl (by decide) v n (xs.map (Value.int .i64)) hs hown A 0 c [] hx rfl ?_ ?_ (by simp only [maxLen]; omega) (by omega) hbase ?_
  · intro j u hj
    simp at hj
  · intro u hu
    simp at hu
  · intro v' w' h1 h2 _
    have hb := below_row hown h2 hbase
    exact h v' w' (by simpa using h1) hb h2.size

set_option maxHeartbeats 400000 in
theorem l00Own_t (A : Option Addr) (n c : Nat) (xs : List Int) (w : World) (hn : n ≤ 1048576) (ha : Rd w w.heap.size A n xs) :
    Calls Tryz.prog 83 #[.slice A n c] w fun e w' => ∃ B d, e = .returned (.slice B n d) ∧ Below w.heap.size w w' ∧ Wr w' w.heap.size B n xs := by
  have HA := Lib.hid ha
  clear ha
  by_cases hz : n = 0
  · have hxs : xs = [] := List.length_eq_zero_iff.1 (by rw [HA.out.1]; exact hz)
    subst hxs
    subst hz
    cases A with
    | none =>
      go_enter Tryz.func83, Tryz.ntmps83
      go_wp2_with fail
      go_ret
      exact ⟨_, _, rfl, (by repeat (first | assumption | exact Below.refl _ _ | (refine Below.setCell ?_ (by first | omega | (simp; done) | (simp; omega)) _) | apply below_drewN | apply Below.drew | (refine Below.alloc ?_ (by first | omega | (simp; done) | (simp; omega)) _))), rfl, fun h => absurd h (by omega)⟩
    | some A =>
      go_enter Tryz.func83, Tryz.ntmps83
      go_wp2_with (at_builtin; refine wpl_app0 rfl _ _ rfl _ w.heap.size 0 _ _ _ [] rfl (World.ownsRow_made _ _ _ (Nat.le_refl _) (by simp [maxLen]) rfl) rfl (by omega) (by simp) ?_; intro v1 w1 hown1 hb1 hz1)
      obtain ⟨B, d, rfl, hw⟩ := own_wr hown1
      go_ret
      exact ⟨B, d, rfl, (by repeat (first | assumption | exact Below.refl _ _ | (refine Below.trans ?_ (hb1.mono (by first | omega | (simp; done) | (simp; omega)))) | (refine Below.setCell ?_ (by first | omega | (simp; done) | (simp; omega)) _) | apply below_drewN | apply Below.drew | (refine Below.alloc ?_ (by first | omega | (simp; done) | (simp; omega)) _))), hw⟩
  · obtain ⟨b, o, rfl, hbB, _⟩ := HA.out.2 (by omega)
    go_enter Tryz.func83, Tryz.ntmps83
    go_wp2_with (at_builtin; refine wpl_appN rfl _ _ rfl _ w.heap.size 0 n _ _ _ [] xs rfl (World.ownsRow_made _ _ _ (Nat.le_refl _) (by simp [maxLen]) rfl) rfl ((HA.out.below (by repeat (first | assumption | exact Below.refl _ _ | (refine Below.setCell ?_ (by first | omega | (simp; done) | (simp; omega)) _) | apply below_drewN | apply Below.drew | (refine Below.alloc ?_ (by first | omega | (simp; done) | (simp; omega)) _)))).mono (by first | omega | (simp; done) | (simp; omega))) (by omega) (by omega) (by simp) ?_; intro v1 w1 hown1 hb1 hz1)
    obtain ⟨B, d, rfl, hw⟩ := own_wr hown1
    go_ret
    exact ⟨B, d, by simp, (by repeat (first | assumption | exact Below.refl _ _ | (refine Below.trans ?_ (hb1.mono (by first | omega | (simp; done) | (simp; omega)))) | (refine Below.setCell ?_ (by first | omega | (simp; done) | (simp; omega)) _) | apply below_drewN | apply Below.drew | (refine Below.alloc ?_ (by first | omega | (simp; done) | (simp; omega)) _))), by simpa using hw⟩

end Go.Proofs.YthfemghfkfmkdaaGreatDoor
