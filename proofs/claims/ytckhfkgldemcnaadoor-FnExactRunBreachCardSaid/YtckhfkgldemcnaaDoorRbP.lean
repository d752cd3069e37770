/- Rows of states of a breach. -/
import Derived.Test.YtckhfkgldemcnaaDoorCatBreach
import Derived.Test.YtckhfkgldemcnaaDoorOwnG
import Derived.Test.YtckhfkgldemcnaaDoorBreM
namespace Go.Proofs.YtckhfkgldemcnaaDoor
open Go.RowKit

theorem rd_newBreach (W : World) (x0 x1 x2 : Int) (k : Nat) (hk : W.heap.size = k) : Rd_Breach (W.alloc (.cells #[.int .i64 x0, .int .i64 x1, .int .i64 x2] 32)) (k + 1) (some ⟨k, 0, none⟩) 1 [⟨x0, x1, x2⟩] := by
  subst hk
  exact ⟨by simp [csBreach, encBreach], fun _ => ⟨W.heap.size, 0, rfl, by omega, fun j _ => by
    rw [Nat.zero_add]
    refine (World.cell?_alloc_new (w := W) #[.int .i64 x0, .int .i64 x1, .int .i64 x2] 32 j).trans ?_
    simp [csBreach, encBreach]⟩⟩

set_option maxRecDepth 100000 in
theorem wplApp1Breach {ops : Array Oper} {rest : List Oper} {o : Oper} {a : Act} {Q : Exit → Act → World → Prop} (hgd : o.guard = none) (s x : Operand)
    (ho : o.op = .call { callee := .builtin .append, args := #[s, x], argTypes := #[40, 40] }) (W : World) (k : Nat) (hk : W.heap.size = k) (base n : Nat) (v : Value) (xs : List RBreach) (x0 x1 x2 : Int)
    (hs : a.eval s = v) (hown : W.ownsRow base 32 3 v n (csBreach xs)) (hx : a.eval x = .slice (some ⟨k, 0, none⟩) 1 1) (hn : n ≤ 1048576) (hbase : base ≤ W.heap.size)
    (h : ∀ v' w', w'.ownsRow base 32 3 v' (n + 1) (csBreach (xs ++ [⟨x0, x1, x2⟩])) → Below base W w' → W.heap.size ≤ w'.heap.size → wpList Tryd.prog ops Q rest (a.put o.dst v') w') :
    wpList Tryd.prog ops Q (o :: rest) a (W.alloc (.cells #[.int .i64 x0, .int .i64 x1, .int .i64 x2] 32)) := by
  refine wplAppBreach hgd s x ho _ base n 1 1 (k + 1) (some ⟨k, 0, none⟩) v (csBreach xs) [⟨x0, x1, x2⟩] hs (owns_below hown ((Below.refl _ _).alloc (Nat.le_refl _) _)) hx (rd_newBreach W x0 x1 x2 k hk) (by omega) (by simp; omega) ?_
  intro v' w' h1 h2 h3
  refine h v' w' (by rw [csBreach_app]; exact h1) (((Below.refl _ _).alloc hbase _).trans h2) (Nat.le_trans (by simp) h3)


theorem own_block {w w' : World} {base s n : Nat} {e : TypeId} {v : Value} {xs : List Value} (h : w.ownsRow base e s v n xs) (hb : ∀ k, base ≤ k → k < w.heap.size → w'.heap[k]? = w.heap[k]?) : w'.ownsRow base e s v n xs := by
  refine ⟨h.1, h.2.imp id ?_⟩
  rintro ⟨g, cap, cur, e1, hg, hc, r⟩
  exact ⟨g, cap, cur, e1, hg, (hb g hg (Array.getElem?_eq_some_iff.1 hc).1).trans hc, r⟩
theorem own_three {w : World} {base s n q : Nat} {e : TypeId} {v v0 v1 v2 : Value} {xs : List Value} (h : w.ownsRow base e s v n xs) (hq : q < base) : (((w.setCell ⟨q, 0, none⟩ v0).setCell ⟨q, 1, none⟩ v1).setCell ⟨q, 2, none⟩ v2).ownsRow base e s v n xs :=
  own_block h (fun k hk _ => (Below.heap_setCell _ _ _ _ (by show k ≠ q; omega)).trans ((Below.heap_setCell _ _ _ _ (by show k ≠ q; omega)).trans (Below.heap_setCell _ _ _ _ (by show k ≠ q; omega))))
theorem MB.belowB {w W V : World} {lo q r : Nat} {A0 : Option Addr} {n0 k0 : Nat} {A1 : Option Addr} {n1 k1 : Nat} {a b c : Int} (m : MB w W lo q r A0 n0 k0 A1 n1 k1 a b c) {B : Nat} (hb : Below B W V) (hq : q < B) (hr : r < B) (hlo : lo ≤ B) : MB w V lo q r A0 n0 k0 A1 n1 k1 a b c := by
  obtain ⟨D, lq, lr, nq, lor, cc, ⟨x0, x1, x2⟩, f0, f1, f2⟩ := m
  have c := fun (o : Nat) => hb.cell (p := ⟨r, o, none⟩) hr
  have f := fun (o : Nat) => hb.frozen (p := ⟨r, o, none⟩) hr
  exact ⟨D.trans (hb.mono hlo), Nat.lt_of_lt_of_le lq hb.size, Nat.lt_of_lt_of_le lr hb.size, nq, lor, cc.below hb hq, ⟨(c 0).trans x0, (c 1).trans x1, (c 2).trans x2⟩, (f 0).trans f0, (f 1).trans f1, (f 2).trans f2⟩
/-- the states after 1 .. k hours -/
def stN (ls vs : List Int) (a b c : Int) (ys : List Int) (st : Nat → Int) (k : Nat) : List RBreach := (List.range k).map fun j => ⟨(itB ls vs a b c ys st (j + 1)).a, b, (itB ls vs a b c ys st (j + 1)).c⟩
theorem stN_len (ls vs : List Int) (a b c : Int) (ys : List Int) (st : Nat → Int) (k : Nat) : (stN ls vs a b c ys st k).length = k := by simp [stN]
theorem stN_succ (ls vs : List Int) (a b c : Int) (ys : List Int) (st : Nat → Int) (k : Nat) : stN ls vs a b c ys st (k + 1) = stN ls vs a b c ys st k ++ [⟨(itB ls vs a b c ys st (k + 1)).a, b, (itB ls vs a b c ys st (k + 1)).c⟩] := by
  unfold stN
  rw [List.range_succ, List.map_append]
  rfl
def thrK (ys : List Int) (k : Nat) : Prop := ∀ j, j < k → stoOk (ys.getD j 0)
instance (ys : List Int) (k : Nat) : Decidable (thrK ys k) := by unfold thrK; exact inferInstance
def rbOk (ls vs : List Int) (a b c : Int) (ys st : List Int) : Prop := brOk ls vs a b c ∧ stepsOk ys ∧ st.length = ys.length ∧ thrOk st
instance (ls vs : List Int) (a b c : Int) (ys st : List Int) : Decidable (rbOk ls vs a b c ys st) := by unfold rbOk; exact inferInstance
theorem rb_hrs {ls vs : List Int} {a b c : Int} {ys st : List Int} (h : rbOk ls vs a b c ys st) : HrsOk ys (fun k => st.getD k 0) := fun k hk => ⟨h.2.1.1 k hk, h.2.2.2 k (by have := h.2.2.1; omega)⟩
def r0_RunBreach (xa0_0 : List Int) (xa0_1 : List Int) (a1_0 : Int) (a1_1 : Int) (a1_2 : Int) (xa2 : List Int) (xa3 : List Int) : List RBreach := if rbOk xa0_0 xa0_1 a1_0 a1_1 a1_2 xa2 xa3 then stN xa0_0 xa0_1 a1_0 a1_1 a1_2 xa2 (fun k => xa3.getD k 0) xa2.length else []
def r1_RunBreach (xa0_0 : List Int) (xa0_1 : List Int) (a1_0 : Int) (a1_1 : Int) (a1_2 : Int) (xa2 : List Int) (xa3 : List Int) : Int := bcode xa0_0 xa0_1 a1_0 a1_1 a1_2 (stepsOk xa2 ∧ (xa3.length = xa2.length ∧ thrOk xa3))
theorem len_r0_RunBreach (xa0_0 : List Int) (xa0_1 : List Int) (a1_0 : Int) (a1_1 : Int) (a1_2 : Int) (xa2 : List Int) (xa3 : List Int) : (r0_RunBreach xa0_0 xa0_1 a1_0 a1_1 a1_2 xa2 xa3).length ≤ 1048576 := by
  unfold r0_RunBreach
  split
  · rename_i h
    rw [stN_len]
    have := h.2.1.2
    omega
  · simp

end Go.Proofs.YtckhfkgldemcnaaDoor
