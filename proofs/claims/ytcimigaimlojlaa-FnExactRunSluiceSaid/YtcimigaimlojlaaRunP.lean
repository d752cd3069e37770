/- The states of a sluice after each hour, and the code. -/
import Derived.Test.YtcimigaimlojlaaRSluice
import Derived.Test.YtcimigaimlojlaaCatGate
import Derived.Test.YtcimigaimlojlaaHrs
import Derived.Test.YtcimigaimlojlaaStepS
import Derived.Test.YtcimigaimlojlaaOwnS
import Derived.Test.YtcimigaimlojlaaStepG
import Derived.Deep.AppendLies
namespace Go.Proofs.Ytcimigaimlojlaa
open Go.RowKit

def rgN (wd sl : Int) (os xs ys : List Int) : Nat → RGate
  | 0 => zGate
  | k + 1 => nxN wd sl (os.getD k 0) (xs.getD k 0) (ys.getD k 0) (rgN wd sl os xs ys k)
def rcN (wd sl : Int) (os xs ys : List Int) (k : Nat) : Int := stC wd sl (os.getD k 0) (xs.getD k 0) (ys.getD k 0) (rgN wd sl os xs ys k)
def reN (wd sl : Int) (os xs ys : List Int) : Nat → Int
  | 0 => 0
  | k + 1 => if reN wd sl os xs ys k = 0 then rcN wd sl os xs ys k else reN wd sl os xs ys k
def rlN (wd sl : Int) (os xs ys : List Int) (n : Nat) : List RGate := (List.range n).map (fun k => rgN wd sl os xs ys (k + 1))
theorem rl_len (wd sl : Int) (os xs ys : List Int) (n : Nat) : (rlN wd sl os xs ys n).length = n := by simp [rlN]
theorem rl_succ (wd sl : Int) (os xs ys : List Int) (n : Nat) : rlN wd sl os xs ys (n + 1) = rlN wd sl os xs ys n ++ [rgN wd sl os xs ys (n + 1)] := by simp [rlN, List.range_succ]
theorem re_down (wd sl : Int) (os xs ys : List Int) (n : Nat) (h : reN wd sl os xs ys (n + 1) = 0) : reN wd sl os xs ys n = 0 ∧ rcN wd sl os xs ys n = 0 := by
  unfold reN at h
  by_cases e : reN wd sl os xs ys n = 0
  · rw [if_pos e] at h; exact ⟨e, h⟩
  · rw [if_neg e] at h; exact absurd h e
theorem re_low (wd sl : Int) (os xs ys : List Int) (n : Nat) (h : reN wd sl os xs ys n = 0) : ∀ k, k ≤ n → reN wd sl os xs ys k = 0 := by
  induction n with
  | zero => intro k hk; obtain rfl : k = 0 := by omega
            exact h
  | succ n ih =>
    intro k hk
    by_cases e : k = n + 1
    · rw [e]; exact h
    · exact ih (re_down wd sl os xs ys n h).1 k (by omega)
theorem re_stays (wd sl : Int) (os xs ys : List Int) (k n : Nat) (h : reN wd sl os xs ys k ≠ 0) (hk : k ≤ n) : reN wd sl os xs ys n = reN wd sl os xs ys k := by
  induction n with
  | zero => obtain rfl : k = 0 := by omega
            rfl
  | succ n ih =>
    by_cases e : k = n + 1
    · rw [e]
    · have i := ih (by omega)
      show (if reN wd sl os xs ys n = 0 then rcN wd sl os xs ys n else reN wd sl os xs ys n) = _
      rw [i, if_neg h]
theorem rg_ok (wd sl : Int) (os xs ys : List Int) (k : Nat) (h : reN wd sl os xs ys k = 0) : gtOk (rgN wd sl os xs ys k).f1 (rgN wd sl os xs ys k).f2 := by
  cases k with
  | zero => exact ⟨⟨by show (0 : Int) ≤ 0; omega, by show (0 : Int) ≤ 1000000000; omega⟩, by show (0 : Int) ≤ 0; omega, by show (0 : Int) ≤ 1000000; omega⟩
  | succ k =>
    have e := (re_down wd sl os xs ys k h).2
    unfold rcN stC at e
    by_cases f : os.getD k 0 = 1 ∧ xs.getD k 0 ≤ ys.getD k 0
    · rw [if_pos f] at e; omega
    · rw [if_neg f] at e
      by_cases g : gtOk (nxN wd sl (os.getD k 0) (xs.getD k 0) (ys.getD k 0) (rgN wd sl os xs ys k)).f1 (nxN wd sl (os.getD k 0) (xs.getD k 0) (ys.getD k 0) (rgN wd sl os xs ys k)).f2
      · exact g
      · rw [if_neg g] at e; omega
theorem re_hit (wd sl : Int) (os xs ys : List Int) (k n : Nat) (h : reN wd sl os xs ys k = 0) (h2 : rcN wd sl os xs ys k ≠ 0) (hk : k < n) : reN wd sl os xs ys n = rcN wd sl os xs ys k := by
  have e : reN wd sl os xs ys (k + 1) = rcN wd sl os xs ys k := by
    show (if reN wd sl os xs ys k = 0 then rcN wd sl os xs ys k else reN wd sl os xs ys k) = _
    rw [if_pos h]
  rw [← e]
  exact re_stays wd sl os xs ys (k + 1) n (by rw [e]; exact h2) hk
theorem re_next (wd sl : Int) (os xs ys : List Int) (k : Nat) (h : reN wd sl os xs ys k = 0) (h2 : rcN wd sl os xs ys k = 0) : reN wd sl os xs ys (k + 1) = 0 := by
  show (if reN wd sl os xs ys k = 0 then rcN wd sl os xs ys k else reN wd sl os xs ys k) = 0
  rw [if_pos h]; exact h2
theorem st_next (wd sl : Int) (os xs ys : List Int) (k : Nat) (h2 : rcN wd sl os xs ys k = 0) : stG wd sl (os.getD k 0) (xs.getD k 0) (ys.getD k 0) (rgN wd sl os xs ys k) = rgN wd sl os xs ys (k + 1) := by
  unfold stG
  exact if_pos h2
def rsOk (n m l : Nat) (os xs ys : List Int) : Prop := (hrOk m l xs ys ∧ n = m) ∧ allIn 0 2 n os
instance (n m l : Nat) (os xs ys : List Int) : Decidable (rsOk n m l os xs ys) := by unfold rsOk; exact inferInstance
def r0_RunSluice (a0_0 : Int) (a0_1 : Int) (xa1 : List Int) (xa2 : List Int) (xa3 : List Int) : List RGate := if (slOk a0_0 a0_1 ∧ rsOk xa1.length xa2.length xa3.length xa1 xa2 xa3) ∧ reN a0_0 a0_1 xa1 xa2 xa3 xa1.length = 0 then rlN a0_0 a0_1 xa1 xa2 xa3 xa1.length else []
def r1_RunSluice (a0_0 : Int) (a0_1 : Int) (xa1 : List Int) (xa2 : List Int) (xa3 : List Int) : Int := if slOk a0_0 a0_1 ∧ rsOk xa1.length xa2.length xa3.length xa1 xa2 xa3 then reN a0_0 a0_1 xa1 xa2 xa3 xa1.length else sc3 (slOk a0_0 a0_1) (rsOk xa1.length xa2.length xa3.length xa1 xa2 xa3)
theorem len_r0_RunSluice (a0_0 : Int) (a0_1 : Int) (xa1 : List Int) (xa2 : List Int) (xa3 : List Int) : (r0_RunSluice a0_0 a0_1 xa1 xa2 xa3).length ≤ 1048576 := by
  unfold r0_RunSluice
  split
  · rename_i h
    have h1 := h.1.2.1.1.1.2
    have h2 := h.1.2.1.2
    rw [rl_len]
    omega
  · simp

theorem rd_newGate (W : World) (x0 : Bool) (x1 x2 : Int) (k : Nat) (hk : W.heap.size = k) : Rd_Gate (W.alloc (.cells #[.bool x0, .int .i64 x1, .int .i64 x2] 31)) (k + 1) (some ⟨k, 0, none⟩) 1 [⟨x0, x1, x2⟩] := by
  subst hk
  exact ⟨by simp [csGate, encGate], fun _ => ⟨W.heap.size, 0, rfl, by omega, fun j _ => by
    rw [Nat.zero_add]
    refine (World.cell?_alloc_new (w := W) #[.bool x0, .int .i64 x1, .int .i64 x2] 31 j).trans ?_
    simp [csGate, encGate]⟩⟩

theorem ownsR_made {W : World} {k base s : Nat} {e : TypeId} (hk : W.heap.size = k) (hb : base ≤ k) : (W.alloc (.cells #[] e)).ownsRow base e s (.slice (some ⟨k, 0, none⟩) 0 0) 0 [] := by
  subst hk
  exact ⟨by simp, .inr ⟨_, 0, #[], rfl, hb, heap_alloc_new W _, Nat.le_refl _, Nat.zero_le _, by simp, by simp⟩⟩

theorem gate_put {W : World} {b : Nat} (q0 n0 : Bool) (q1 q2 n1 n2 : Int) (o : Obj) (hb : b < W.heap.size) (v0 : W.cell? ⟨b, 0, none⟩ = some (.bool q0)) (v1 : W.cell? ⟨b, 1, none⟩ = some (.int .i64 q1)) (v2 : W.cell? ⟨b, 2, none⟩ = some (.int .i64 q2))
    (f0 : W.frozen? ⟨b, 0, none⟩ = false) (f1 : W.frozen? ⟨b, 1, none⟩ = false) (f2 : W.frozen? ⟨b, 2, none⟩ = false) (X : World) (hX : X = (((W.setCell ⟨b, 0, none⟩ (.bool n0)).setCell ⟨b, 1, none⟩ (.int .i64 n1)).setCell ⟨b, 2, none⟩ (.int .i64 n2)).alloc o) :
    X.heap.size = W.heap.size + 1 ∧ (X.cell? ⟨b, 0, none⟩ = some (.bool n0) ∧ X.cell? ⟨b, 1, none⟩ = some (.int .i64 n1) ∧ X.cell? ⟨b, 2, none⟩ = some (.int .i64 n2)) ∧ X.frozen? ⟨b, 0, none⟩ = false ∧ X.frozen? ⟨b, 1, none⟩ = false ∧ X.frozen? ⟨b, 2, none⟩ = false := by
  subst hX
  have k0 : ((W.setCell ⟨b, 0, none⟩ (.bool n0)).setCell ⟨b, 1, none⟩ (.int .i64 n1)).cell? ⟨b, 2, none⟩ = some (.int .i64 q2) := by
    rw [World.cell?_setCell_other _ _ _ _ (by simp), World.cell?_setCell_other _ _ _ _ (by simp)]; exact v2
  have k1 : (W.setCell ⟨b, 0, none⟩ (.bool n0)).cell? ⟨b, 1, none⟩ = some (.int .i64 q1) := by
    rw [World.cell?_setCell_other _ _ _ _ (by simp)]; exact v1
  have hw : ∀ Y : World, b < Y.heap.size → ∀ j, (Y.alloc o).cell? ⟨b, j, none⟩ = Y.cell? ⟨b, j, none⟩ ∧ (Y.alloc o).frozen? ⟨b, j, none⟩ = Y.frozen? ⟨b, j, none⟩ := fun Y hY j =>
    ⟨((Below.refl Y.heap.size Y).alloc (Nat.le_refl _) o).cell (p := ⟨b, j, none⟩) hY, ((Below.refl Y.heap.size Y).alloc (Nat.le_refl _) o).frozen (p := ⟨b, j, none⟩) hY⟩
  have hY : b < (((W.setCell ⟨b, 0, none⟩ (.bool n0)).setCell ⟨b, 1, none⟩ (.int .i64 n1)).setCell ⟨b, 2, none⟩ (.int .i64 n2)).heap.size := by simpa [World.setCell] using hb
  refine ⟨by simp [World.setCell], ⟨?_, ?_, ?_⟩, ?_, ?_, ?_⟩
  · rw [(hw _ hY 0).1, World.cell?_setCell_other _ _ _ _ (by simp), World.cell?_setCell_other _ _ _ _ (by simp)]; exact World.cell?_setCell_same _ _ _ v0
  · rw [(hw _ hY 1).1, World.cell?_setCell_other _ _ _ _ (by simp)]; exact World.cell?_setCell_same _ _ _ k1
  · rw [(hw _ hY 2).1]; exact World.cell?_setCell_same _ _ _ k0
  · rw [(hw _ hY 0).2]; simpa using f0
  · rw [(hw _ hY 1).2]; simpa using f1
  · rw [(hw _ hY 2).2]; simpa using f2

theorem own_em {W : World} {b s n : Nat} {e : TypeId} {v : Value} {xs : List Value} (_ : W.ownsRow b e s v n xs) : v.ownBlock = none ∨ v.ownBlock ≠ none := Classical.em _
theorem own_ne {v : Value} {gb : Nat} (h : ∀ g, v.ownBlock = some g → g ≠ gb) : v.ownBlock = none ∨ v.ownBlock ≠ some gb := .inr (fun e => h _ e rfl)

set_option maxRecDepth 100000 in
theorem wplApp2Gate {ops : Array Oper} {rest : List Oper} {o : Oper} {a : Act} {Q : Exit → Act → World → Prop} (hgd : o.guard = none) (s x : Operand)
    (ho : o.op = .call { callee := .builtin .append, args := #[s, x], argTypes := #[38, 38] }) (W : World) (k : Nat) (hk : W.heap.size = k) (base n : Nat) (v : Value) (xs : List RGate) (x0 : Bool) (x1 x2 : Int)
    (hs : a.eval s = v) (hown : W.ownsRow base 31 3 v n (csGate xs)) (hx : a.eval x = .slice (some ⟨k, 0, none⟩) 1 1) (hn : n ≤ 1048576) (hbase : base ≤ W.heap.size)
    (h : ∀ g c w', w'.ownsRow base 31 3 (.slice (some ⟨g, 0, none⟩) (n + 1) c) (n + 1) (csGate (xs ++ [⟨x0, x1, x2⟩])) → (W.alloc (.cells #[.bool x0, .int .i64 x1, .int .i64 x2] 31)).grownBy w' v.ownBlock → (v.ownBlock = some g ∨ g = W.heap.size + 1) → wpList Try.prog ops Q rest (a.put o.dst (.slice (some ⟨g, 0, none⟩) (n + 1) c)) w') :
    wpList Try.prog ops Q (o :: rest) a (W.alloc (.cells #[.bool x0, .int .i64 x1, .int .i64 x2] 31)) := by
  subst hk
  obtain ⟨i0, hi, hz0, hz1, hz2⟩ := info_parts info_Gate
  have hnews : ∀ j u, (encGate ⟨x0, x1, x2⟩)[j]? = some u → (W.alloc (.cells #[.bool x0, .int .i64 x1, .int .i64 x2] 31)).cell? ((⟨W.heap.size, 0, none⟩ : Addr).add j) = some u := by
    intro j u hj
    rw [addr_add, Nat.zero_add]
    exact (World.cell?_alloc_new (w := W) #[.bool x0, .int .i64 x1, .int .i64 x2] 31 j).trans (by simpa [encGate] using hj)
  have hone : ∀ u ∈ encGate ⟨x0, x1, x2⟩, u.oneCell' = true := by
    intro u hu
    simp [encGate] at hu
    rcases hu with rfl | rfl | rfl <;> rfl
  have happ : csGate (xs ++ [⟨x0, x1, x2⟩]) = csGate xs ++ encGate ⟨x0, x1, x2⟩ := by rw [csGate_app]; simp [csGate]
  rw [happ] at h
  refine wpList_append_lies (P := Try.prog) _ hgd s x 38 ho base 31 i0 (.agg #[.bool false, .int .i64 0, .int .i64 0]) 3 24 Try.underlying38 hi hz0 hz1 hz2 rfl (by decide) v n (csGate xs) hs (hown.alloc _) ⟨W.heap.size, 0, none⟩ 1 1 (encGate ⟨x0, x1, x2⟩) hx rfl hnews hone (by decide) (by simp only [maxLen]; omega) (by omega) (by simp; omega) (W.heap.size + 1) (by simp) ?_
  intro g cap w' h1 h2 h3 _
  exact h g cap w' h1 h2 h3

theorem stS_u (wd sl i o ord : Int) (g0 : Bool) (g1 g2 : Int) (r0 : Bool) (r1 r2 : Int) (w : World) (hs : slOk wd sl) (hg : gtOk g1 g2) (hi : slv i) (ho : slv o) (hord : 0 ≤ ord ∧ ord ≤ 2) (hr : (⟨r0, r1, r2⟩ : RGate) = stG wd sl ord i o ⟨g0, g1, g2⟩) (c : Int) (hc : c = stC wd sl ord i o ⟨g0, g1, g2⟩) :
    Calls Try.prog 48 #[.agg #[.int .i64 wd, .int .i64 sl], .agg #[.bool g0, .int .i64 g1, .int .i64 g2], .int .i64 ord, .int .i64 i, .int .i64 o] w fun e w' => e = .returned (.tuple #[.agg #[.bool r0, .int .i64 r1, .int .i64 r2], .int .i64 c]) ∧ Below w.heap.size w w' :=
  stS_t wd sl i o ord ⟨g0, g1, g2⟩ w hs hg hi ho hord ⟨r0, r1, r2⟩ hr c hc

end Go.Proofs.Ytcimigaimlojlaa
