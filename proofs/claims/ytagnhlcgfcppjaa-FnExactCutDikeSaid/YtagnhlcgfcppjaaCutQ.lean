/- A dike that is cut: what both parts are, plain mathematics; two rows that grow in turn. -/
import Derived.Test.YtagnhlcgfcppjaaOwnQ
import Derived.ArgAppend
import Derived.Deep.AppendLies
namespace Go.Proofs.Ytagnhlcgfcppjaa
open Go.RowKit

theorem RS_eta (x : RSection) : (⟨x.f0, x.f1⟩ : RSection) = x := by cases x; rfl
theorem take_sn {xs : List RSection} {j : Nat} (h : j < xs.length) : xs.take (j + 1) = xs.take j ++ [xs.getD j zSection] := by
  rw [List.take_add_one, List.getElem?_eq_getElem h, getDSection h]
  rfl
theorem drop_cons {xs : List RSection} {k : Nat} (h : k < xs.length) : xs.drop k = xs.getD k zSection :: xs.drop (k + 1) := by
  rw [getDSection h]
  exact List.drop_eq_getElem_cons h
theorem lenN_mono' {xs : List RSection} {n i j : Nat} (h : DkOk n xs) (hij : i ≤ j) (hj : j ≤ n) : lenN xs i ≤ lenN xs j := by
  rcases Nat.lt_or_ge i j with c | c
  · have := lenN_lt h c hj; omega
  · rw [show i = j by omega]; exact Int.le_refl _
theorem cut_lo {n : Nat} {xs : List RSection} (h : DkOk n xs) (hl : xs.length = n) {k : Nat} {m : Int} (hk : k ≤ n) (hm : lenN xs k ≤ m) (j : Nat) (hj : j ≤ k) : cutA xs m j = xs.take j ∧ cutB xs m j = [] := by
  induction j with
  | zero => exact ⟨rfl, rfl⟩
  | succ j ih =>
    obtain ⟨i1, i2⟩ := ih (by omega)
    have hd := h.1 j (by omega)
    have e : lenN xs (j + 1) = lenN xs j + (xs.getD j zSection).f0 := rfl
    have hmo := lenN_mono' h (show j + 1 ≤ k by omega) hk
    have t : tkN xs m j = (xs.getD j zSection).f0 := by unfold tkN; omega
    simp only [cutA, cutB]
    rw [i1, i2, t, if_pos (by omega), if_neg (by omega), RS_eta, take_sn (by omega)]
    exact ⟨rfl, rfl⟩
theorem cut_hi {n : Nat} {xs : List RSection} (h : DkOk n xs) (hl : xs.length = n) {k : Nat} {m : Int} (hm : m < lenN xs (k + 1)) (i : Nat) (hi : k + 1 + i ≤ n) : cutA xs m (k + 1 + i) = cutA xs m (k + 1) ∧ cutB xs m (k + 1 + i) = cutB xs m (k + 1) ++ (xs.drop (k + 1)).take i := by
  induction i with
  | zero => simp
  | succ i ih =>
    obtain ⟨i1, i2⟩ := ih (by omega)
    have hd := h.1 (k + 1 + i) (by omega)
    have hmo := lenN_mono' h (show k + 1 ≤ k + 1 + i by omega) (by omega)
    have t : tkN xs m (k + 1 + i) = 0 := by unfold tkN; omega
    rw [show k + 1 + (i + 1) = (k + 1 + i) + 1 by omega]
    have ea : cutA xs m (k + 1 + i + 1) = cutA xs m (k + 1 + i) ++ if 0 < tkN xs m (k + 1 + i) then [⟨tkN xs m (k + 1 + i), (xs.getD (k + 1 + i) zSection).f1⟩] else [] := rfl
    have eb : cutB xs m (k + 1 + i + 1) = cutB xs m (k + 1 + i) ++ if tkN xs m (k + 1 + i) < (xs.getD (k + 1 + i) zSection).f0 then [⟨(xs.getD (k + 1 + i) zSection).f0 - tkN xs m (k + 1 + i), (xs.getD (k + 1 + i) zSection).f1⟩] else [] := rfl
    rw [ea, eb, t, if_neg (by omega), if_pos (by omega), i1, i2, List.append_nil, Int.sub_zero, RS_eta, List.append_assoc]
    refine ⟨rfl, ?_⟩
    congr 1
    rw [List.take_add_one, List.getElem?_drop, List.getElem?_eq_getElem (by omega), getDSection (by omega)]
    rfl
theorem cut_all {n : Nat} {xs : List RSection} (h : DkOk n xs) (hl : xs.length = n) {k : Nat} {m : Int} (hs : IsSec xs n m k) :
    cutA xs m n = xs.take k ++ (if lenN xs k < m then [⟨m - lenN xs k, (xs.getD k zSection).f1⟩] else []) ∧ cutB xs m n = ⟨(xs.getD k zSection).f0 - (m - lenN xs k), (xs.getD k zSection).f1⟩ :: xs.drop (k + 1) := by
  obtain ⟨h1, h2, h3⟩ := hs
  obtain ⟨a1, a2⟩ := cut_lo h hl (by omega) h2 k (Nat.le_refl _)
  obtain ⟨b1, b2⟩ := cut_hi h hl h3 (n - (k + 1)) (by omega)
  have hd := h.1 k h1
  have e : lenN xs (k + 1) = lenN xs k + (xs.getD k zSection).f0 := rfl
  have t : tkN xs m k = m - lenN xs k := by unfold tkN; omega
  rw [show k + 1 + (n - (k + 1)) = n by omega] at b1 b2
  have ea : cutA xs m (k + 1) = cutA xs m k ++ if 0 < tkN xs m k then [⟨tkN xs m k, (xs.getD k zSection).f1⟩] else [] := rfl
  have eb : cutB xs m (k + 1) = cutB xs m k ++ if tkN xs m k < (xs.getD k zSection).f0 then [⟨(xs.getD k zSection).f0 - tkN xs m k, (xs.getD k zSection).f1⟩] else [] := rfl
  rw [b1, b2, ea, eb, a1, a2, t, if_pos (show m - lenN xs k < (xs.getD k zSection).f0 by omega), List.nil_append, List.take_of_length_le (l := xs.drop (k + 1)) (by rw [List.length_drop]; omega)]
  refine ⟨?_, rfl⟩
  by_cases c : lenN xs k < m
  · rw [if_pos c, if_pos (by omega)]
  · rw [if_neg c, if_neg (by omega)]

theorem gb_anyQ {w w' : World} (h : w.grownBy w' none) (row : Option Nat) : w.grownBy w' row := ⟨h.os, h.tape, h.output, h.size, fun k hk _ => h.block k hk (by simp)⟩
set_option maxRecDepth 100000 in
/-- 'append(v, x)' onto a row of the call's own: behind it the row lies where it lay, or in a new block -/
theorem wplApp2S {ops : Array Oper} {rest : List Oper} {o : Oper} {a : Act} {Q : Exit → Act → World → Prop} (hgd : o.guard = none) (s x : Operand)
    (ho : o.op = .call { callee := .builtin .append, args := #[s, x], argTypes := #[25, 25] }) (W : World) (k : Nat) (hk : W.heap.size = k) (base n : Nat) (v : Value) (xs : List RSection) (x0 x1 : Int)
    (hs : a.eval s = v) (hown : W.ownsRow base 58 2 v n (csSection xs)) (hx : a.eval x = .slice (some ⟨k, 0, none⟩) 1 1) (hn : n ≤ 1048576) (hbase : base ≤ W.heap.size)
    (h : ∀ v' w', w'.ownsRow base 58 2 v' (n + 1) (csSection (xs ++ [⟨x0, x1⟩])) → (W.alloc (.cells #[.int .i64 x0, .int .i64 x1] 58)).grownBy w' v.ownBlock → (v'.ownBlock = v.ownBlock ∨ ∀ g, v'.ownBlock = some g → W.heap.size < g) → wpList Try.prog ops Q rest (a.put o.dst v') w') :
    wpList Try.prog ops Q (o :: rest) a (W.alloc (.cells #[.int .i64 x0, .int .i64 x1] 58)) := by
  subst hk
  obtain ⟨i0, hi, hz0, hz1, hz2⟩ := info_parts info_Section
  have hnews : ∀ j u, (encSection ⟨x0, x1⟩)[j]? = some u → (W.alloc (.cells #[.int .i64 x0, .int .i64 x1] 58)).cell? ((⟨W.heap.size, 0, none⟩ : Addr).add j) = some u := by
    intro j u hj
    rw [addr_add, Nat.zero_add]
    exact (World.cell?_alloc_new (w := W) #[.int .i64 x0, .int .i64 x1] 58 j).trans (by simpa [encSection] using hj)
  have hone : ∀ u ∈ encSection ⟨x0, x1⟩, u.oneCell' = true := by
    intro u hu
    simp [encSection] at hu
    rcases hu with rfl | rfl <;> rfl
  have hA := hown.alloc (.cells #[.int .i64 x0, .int .i64 x1] 58)
  have hlen : (csSection xs).length = n * 2 := hown.1
  have happ : csSection (xs ++ [⟨x0, x1⟩]) = csSection xs ++ encSection ⟨x0, x1⟩ := by rw [csSection_app]; rfl
  rw [happ] at h
  rcases hown.2 with ⟨rfl, rfl⟩ | ⟨g, cap, cur, rfl, hbg, hg, hnc, hcm, hcs, htake⟩
  · refine wpList_append_grows (P := Try.prog) _ hgd s x 25 ho 58 i0 (.agg #[.int .i64 0, .int .i64 0]) 2 16 Try.underlying25 hi hz0 hz1 hz2 rfl (by decide) none 0 0 (csSection xs) hs (fun _ => ⟨rfl, rfl⟩) hlen (by simp) ⟨W.heap.size, 0, none⟩ 1 1 (encSection ⟨x0, x1⟩) hx rfl hnews hone (by omega) (by simp only [maxLen]; omega) (by omega) ?_
    intro v' w' h1 h2
    have hb := h1.lt
    refine h v' w' (own_monoR h1 (base' := base) (by simp; omega)) (gb_anyQ h2 _) (.inr fun g e => ?_)
    have := (hb g e).1
    simp at this
    omega
  · by_cases hroom : n + 1 ≤ cap
    · refine wpList_append_fits (P := Try.prog) _ hgd s x 25 ho base 58 i0 2 Try.underlying25 hi hz1 g n cap (csSection xs) hs hA ⟨W.heap.size, 0, none⟩ 1 1 (encSection ⟨x0, x1⟩) hx rfl hnews hone hroom ?_
      intro w' h1 h2
      exact h _ w' h1 h2 (.inl rfl)
    · refine wpList_append_grows (P := Try.prog) _ hgd s x 25 ho 58 i0 (.agg #[.int .i64 0, .int .i64 0]) 2 16 Try.underlying25 hi hz0 hz1 hz2 rfl (by decide) (some ⟨g, 0, none⟩) n cap (csSection xs) hs (fun e => by cases e) hlen (fun b e => by injection e with e; subst e; exact hA.cells rfl) ⟨W.heap.size, 0, none⟩ 1 1 (encSection ⟨x0, x1⟩) hx rfl hnews hone (by omega) (by simp only [maxLen]; omega) (by omega) ?_
      intro v' w' h1 h2
      have hb := h1.lt
      refine h v' w' (own_monoR h1 (base' := base) (by simp; omega)) (gb_anyQ h2 _) (.inr fun g e => ?_)
      have := (hb g e).1
      simp at this
      omega

set_option maxRecDepth 100000 in
/-- the same at the operation -/
theorem wpApp2S {o : Oper} {a : Act} {K : Act → World → Prop} {Q : Exit → Act → World → Prop} (s x : Operand)
    (ho : o.op = .call { callee := .builtin .append, args := #[s, x], argTypes := #[25, 25] }) (W : World) (k : Nat) (hk : W.heap.size = k) (base n : Nat) (v : Value) (xs : List RSection) (x0 x1 : Int)
    (hs : a.eval s = v) (hown : W.ownsRow base 58 2 v n (csSection xs)) (hx : a.eval x = .slice (some ⟨k, 0, none⟩) 1 1) (hn : n ≤ 1048576) (hbase : base ≤ W.heap.size)
    (h : ∀ v' w', w'.ownsRow base 58 2 v' (n + 1) (csSection (xs ++ [⟨x0, x1⟩])) → (W.alloc (.cells #[.int .i64 x0, .int .i64 x1] 58)).grownBy w' v.ownBlock → (v'.ownBlock = v.ownBlock ∨ ∀ g, v'.ownBlock = some g → W.heap.size < g) → K (a.put o.dst v') w') :
    o.wp Try.prog a (W.alloc (.cells #[.int .i64 x0, .int .i64 x1] 58)) K Q := by
  subst hk
  obtain ⟨i0, hi, hz0, hz1, hz2⟩ := info_parts info_Section
  have hnews : ∀ j u, (encSection ⟨x0, x1⟩)[j]? = some u → (W.alloc (.cells #[.int .i64 x0, .int .i64 x1] 58)).cell? ((⟨W.heap.size, 0, none⟩ : Addr).add j) = some u := by
    intro j u hj
    rw [addr_add, Nat.zero_add]
    exact (World.cell?_alloc_new (w := W) #[.int .i64 x0, .int .i64 x1] 58 j).trans (by simpa [encSection] using hj)
  have hone : ∀ u ∈ encSection ⟨x0, x1⟩, u.oneCell' = true := by
    intro u hu
    simp [encSection] at hu
    rcases hu with rfl | rfl <;> rfl
  have happ : csSection (xs ++ [⟨x0, x1⟩]) = csSection xs ++ encSection ⟨x0, x1⟩ := by rw [csSection_app]; rfl
  rw [happ] at h
  refine wp_append_lies _ s x 25 ho base 58 i0 (.agg #[.int .i64 0, .int .i64 0]) 2 16 Try.underlying25 hi hz0 hz1 hz2 rfl (by decide) v n (csSection xs) hs (hown.alloc _) ⟨W.heap.size, 0, none⟩ 1 1 (encSection ⟨x0, x1⟩) hx rfl hnews hone (by decide) (by simp only [maxLen]; omega) (by omega) (by simp; omega) (W.heap.size + 1) (by simp) ?_
  intro g cap w' h1 h2 h3 _
  refine h _ w' h1 h2 ?_
  rcases h3 with h3 | h3
  · exact .inl h3.symm
  · exact .inr (fun g' e => by simp [Value.ownBlock] at e; omega)

/-- two rows do not lie in one block -/
def Apart (v v' : Value) : Prop := ∀ g, v.ownBlock = some g → v'.ownBlock ≠ some g
theorem Apart.symm {v v' : Value} (h : Apart v v') : Apart v' v := fun g e e' => h g e' e
theorem two_app {W w1 : World} {base s n m : Nat} {e : TypeId} {v u v' : Value} {xs ys : List Value} {o : Obj} (h7 : W.ownsRow base e s v n xs) (h8 : W.ownsRow base e s u m ys) (hd : Apart v u) (hg : (W.alloc o).grownBy w1 v.ownBlock) (hn : v'.ownBlock = v.ownBlock ∨ ∀ g, v'.ownBlock = some g → W.heap.size < g) : w1.ownsRow base e s u m ys ∧ Apart v' u := by
  constructor
  · refine (h8.alloc o).kept hg ?_
    cases hu : u.ownBlock with
    | none => exact .inl rfl
    | some g => exact .inr (fun hx => hd g hx.symm hu)
  · intro g hv hu
    rcases hn with hn | hn
    · exact hd g (hn ▸ hv) hu
    · have h1 := hn g hv
      have h2 := (h8.lt g hu).2
      omega
theorem apart_dis {v v' : Value} {A B : Option Addr} {n m c d : Nat} (h : Apart v v') (e1 : v = .slice A n c) (e2 : v' = .slice B m d) (hA : 0 < n → ∃ g, A = some ⟨g, 0, none⟩) : Dis A n B m := by
  subst e1
  subst e2
  intro h1 h2 hb
  obtain ⟨g, rfl⟩ := hA h1
  cases B with
  | none => simp [ablk] at hb
  | some b => exact h g rfl (by simp only [Value.ownBlock]; exact hb.symm)

end Go.Proofs.Ytagnhlcgfcppjaa
