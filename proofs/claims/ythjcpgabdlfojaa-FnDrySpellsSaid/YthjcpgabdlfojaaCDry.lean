/- The program's dry spells. -/
import Derived.Test.YthjcpgabdlfojaaZsI
import Derived.Test.YthjcpgabdlfojaaPairs
import Derived.Test.YthjcpgabdlfojaaRainM
namespace Go.Proofs.Ythjcpgabdlfojaa
open Go.RowKit Go.Shelf

/-- one operation 'append(v, u)' of a slice u, in a list inside a fence -/
theorem wplIn_appV {F : Fence} {k : Nat} {ops : Array Oper} {rest : List Oper} {o : Oper} {a : Act} {Q : Exit → Act → World → Prop} (hgd : o.guard = none) (s x : Operand)
    (ho : o.op = .call { callee := .builtin .append, args := #[s, x], argTypes := #[32, 32] }) (W : World) (base n g : Nat) (v : Value) (vs : List Value) (u : Value) (hgz : W.heap.size = g)
    (hs : a.eval s = v) (hown : W.ownsRow base 24 1 v n vs) (hx : a.eval x = .slice (some ⟨g, 0, none⟩) 1 1) (hu : u.oneCell' = true) (hn : n ≤ 1048576) (hbase : base ≤ W.heap.size)
    (h : ∀ v' w', w'.ownsRow base 24 1 v' (n + 1) (vs ++ [u]) → (W.alloc (.cells #[u] 24)).grownBy w' v.ownBlock → wpListIn F k Try.prog ops Q rest (a.put o.dst v') w') :
    wpListIn F k Try.prog ops Q (o :: rest) a (W.alloc (.cells #[u] 24)) := by
  subst hgz
  obtain ⟨i0, hi, hz0, hz1, hz2⟩ := info_parts info_sl
  refine wpListIn_append_own _ hgd s x 32 ho base 24 i0 (.slice none 0 0) 1 24 Try.underlying32 hi hz0 hz1 hz2 rfl (by decide) v n vs hs (hown.alloc _) ⟨W.heap.size, 0, none⟩ 1 1 [u] hx rfl ?_ ?_ (by simp only [maxLen]; omega) (by omega) (by simp; omega) ?_
  · intro j y hj
    cases j with
    | zero => simp at hj; subst hj; simp [Addr.add]
    | succ j => simp at hj
  · intro y hy
    simp at hy
    subst hy
    exact hu
  · intro v' w' h1 h2 _
    exact h v' w' (by simpa using h1) h2

/-- a body's append of a pair into a box that lies below its row -/
theorem pair_app {W w1 : World} {R B : Nat} {t : TypeId} {v v' : Value} {n : Nat} {gs : List Nat} {ps : List (Nat × Nat)} (a b : Nat) (hv : Boxed W B t v) (hBR : B < R) (hP : Prs W R gs ps)
    (ho : W.ownsRow R 24 1 v n (gs.map sl2)) (hR : R ≤ W.heap.size) (ho' : w1.ownsRow R 24 1 v' (n + 1) (gs.map sl2 ++ [sl2 W.heap.size])) (hg : ((W.alloc (pcell (a, b))).alloc (.cells #[sl2 W.heap.size] 24)).grownBy w1 v.ownBlock) :
    Boxed w1 B t v ∧ Boxed (w1.setCell ⟨B, 0, none⟩ v') B t v' ∧ (w1.setCell ⟨B, 0, none⟩ v').ownsRow R 24 1 v' (n + 1) ((gs ++ [W.heap.size]).map sl2) ∧ Prs (w1.setCell ⟨B, 0, none⟩ v') R (gs ++ [W.heap.size]) (ps ++ [(a, b)]) ∧ KeepsOthers W (w1.setCell ⟨B, 0, none⟩ v') ∧ But B R W (w1.setCell ⟨B, 0, none⟩ v') := by
  obtain ⟨P1, D1⟩ := prs_app a b hP ho hR hg
  have hv1 : Boxed w1 B t v := (D1.block B hBR).trans hv
  have hne' : v'.ownBlock ≠ some B := fun e' => by have := (ho'.lt B e').1; omega
  refine ⟨hv1, hv1.set v', by simpa using ho'.kept (grownBy_setCell' w1 B v') (.inr hne'), P1.grown (grownBy_setCell' w1 B v') (fun j hj e => by injection e with e; have := (P1.at' j hj).1; omega), ?_, (But.of_below D1).setCell (p := ⟨B, 0, none⟩) (.inl rfl) v'⟩
  refine (((KeepsOthers.alloc W _).trans (KeepsOthers.alloc _ _)).trans (KeepsOthers.of_grownBy hg fun j o ej hj => ?_)).trans (KeepsOthers.setCell _ _ _)
  rcases ((ho.alloc (pcell (a, b))).alloc (.cells #[sl2 W.heap.size] 24)).2 with ⟨rfl, _⟩ | ⟨g, cap, cur, rfl, _, hgb, _⟩
  · simp [Value.ownBlock] at ej
  · obtain rfl : g = j := by simpa [Value.ownBlock] using ej
    rw [hgb] at hj; cases hj; rfl

/-- what a collecting loop holds speaks of cells alone -/
theorem prs_own (B R : Nat) (t : TypeId) (f : List (Nat × Nat) → List (Nat × Nat)) : Own (fun (s : List (Nat × Nat)) W => ∃ v gs, Boxed W B t v ∧ W.ownsRow R 24 1 v (f s).length (gs.map sl2) ∧ Prs W R gs (f s)) := by
  rintro s X Y row ⟨v, gs, hv, hr, hp⟩ hg hrow
  refine ⟨v, gs, hv.kept hg (fun e' => ?_), hr.kept hg ?_, hp.grown hg (fun j hj e' => ?_)⟩
  · obtain ⟨o, ho, hc⟩ := hrow B e'.symm
    rw [show X.heap[B]? = _ from hv] at ho; cases ho; cases hc
  · rcases hr.2 with ⟨rfl, _⟩ | ⟨g, cap, cur, rfl, _, hgb, _⟩
    · exact .inl rfl
    · refine .inr fun e' => ?_
      obtain ⟨o, ho, hc⟩ := hrow g (by simpa [Value.ownBlock] using e'.symm)
      rw [hgb] at ho; cases ho; cases hc
  · obtain ⟨o, ho, hc⟩ := hrow _ e'.symm
    rw [(hp.at' j hj).2] at ho; cases ho; cases hc
theorem Prs.putObj {W : World} {base : Nat} {gs : List Nat} {ps : List (Nat × Nat)} (h : Prs W base gs ps) {l : Nat} {o : Obj} (o' : Obj) (hl : W.heap[l]? = some o) (ho : o.isCells = false) : Prs (W.putObj l o') base gs ps :=
  h.grown (grownBy_putObj' W l o') (fun j hj e' => by
    injection e' with e'
    rw [← e', (h.at' j hj).2] at hl
    cases hl; cases ho)

attribute [local go_sem] Oper.semAt_some
set_option maxRecDepth 100000 in
set_option maxHeartbeats 4000000 in
theorem dry_impl (b o n c : Nat) (xs : List Int) (le : Int) (w : World) (hn : n ≤ 1048576) (hok : RainOk n xs) (hp : 1 ≤ le ∧ le ≤ 120) (ra : Rd w w.heap.size (some ⟨b, o, none⟩) n xs) :
    Calls Try.prog 12 #[.slice (some ⟨b, o, none⟩) n c, .int .i64 le] w fun e w' => ∃ A d gs, e = .returned (.tuple #[.slice A (flp le (spN xs n n)).length d, .int .i64 0]) ∧ Below w.heap.size w w' ∧ w'.ownsRow w.heap.size 24 1 (.slice A (flp le (spN xs n n)).length d) (flp le (spN xs n n)).length (gs.map sl2) ∧ Prs w' w.heap.size gs (flp le (spN xs n n)) := by
  have HR := Lib.hid (show rcode n xs (1 ≤ le ∧ le ≤ 120) = 0 from rcode_ok hok hp)
  have HP := Lib.hid (show true = decide (1 ≤ le ∧ le ≤ 120) from (decide_eq_true hp).symm)
  have h1 := hok.2.1
  have h120 := hok.2.2
  obtain ⟨p1, p2⟩ := hp
  obtain ⟨_, _, e, hbB, hc⟩ := ra.2 (by omega)
  injection e with e
  injection e with e1 e2
  subst e1
  subst e2
  have HC := Lib.hid hc
  have HN := Lib.hid (show ∀ j, j < n → 0 ≤ xs.getD j 0 from fun j hj => (hok.1 j hj).1)
  have RA := Lib.hid ((Rd.mono (ra.below ((Below.refl _ _).alloc (Nat.le_refl _) (.cells #[.int .i64 le] 2)))) (by simp : w.heap.size ≤ (w.alloc (.cells #[.int .i64 le] 2)).heap.size))
  clear hok ra hc
  refine (callsIn_wide (n := 9)).1 ?_
  refine callsIn_of_wp_marks Try.func12 rfl trivial ?_ rfl
  simp only [Try.ntmps12, List.size_toArray, List.length_cons, List.length_nil, Nat.reduceAdd, Nat.reduceSub, Array.replicate_succ, Array.replicate_zero, List.push_toArray, List.append_toArray, List.nil_append, List.cons_append]
  gi_wp2_with (first | (refine ⟨trivial, ?_⟩; gi_at_call 19; refine (callsIn_wide.2 (within_t _ _ _ _ (by omega))).mono ?_; rintro e w' ⟨rfl, rfl⟩) | (refine ⟨trivial, ?_⟩; gi_at_call 18; refine (callsIn_wide.2 (rainCode_t _ _ _ xs _ (1 ≤ le ∧ le ≤ 120) true hn RA.out HP.out)).mono ?_; rintro e1 W1 ⟨rfl, hw1⟩; have d2 : Below w.heap.size w W1 := (by rw [hw1]; exact (by repeat (first | assumption | exact Below.refl _ _ | (refine Below.setCell ?_ (by first | omega | (simp; done) | (simp; omega)) _) | apply below_drewN | apply Below.drew | (refine Below.alloc ?_ (by first | omega | (simp; done) | (simp; omega)) _)))); have g1 : w.heap.size < W1.heap.size := (by rw [hw1]; simp; omega); have mb : Boxed W1 w.heap.size 2 (.int .i64 le) := (by rw [hw1]; exact (((Boxed.new w _ _).alloc _).alloc _).alloc _); clear hw1; rw [HR.out]) | (refine ⟨trivial, ?_⟩; gi_at_call 21; refine (zsp_in Fence.wide _ trivial rfl _ _ _ _).mono ?_; rintro e w' ⟨rfl, rfl⟩))
  obtain ⟨W0, hW0⟩ : ∃ W0, W0 = ((W1.alloc (.cells #[.slice none 0 0] 32)).alloc (.cells #[.slice (some ⟨b, o, none⟩) n c] 24)) := ⟨_, rfl⟩
  have bM : Boxed W0 w.heap.size 2 (.int .i64 le) := by rw [hW0]; exact (mb.alloc _).alloc _
  have bO : Boxed W0 W1.heap.size 32 (.slice none 0 0) := by rw [hW0]; exact (Boxed.new W1 _ _).alloc _
  have bL : Boxed W0 (W1.heap.size + 1) 24 (.slice (some ⟨b, o, none⟩) n c) := by
    have h := Boxed.new (W1.alloc (.cells #[.slice none 0 0] 32)) 24 (.slice (some ⟨b, o, none⟩) n c)
    simp only [World.size_alloc] at h
    rw [hW0]; exact h
  have hB0 : Below w.heap.size w W0 := by rw [hW0]; exact (d2.alloc d2.size _).alloc (by simp; omega) _
  have hz : W0.heap.size = W1.heap.size + 2 := by rw [hW0]; simp
  rw [← hW0]
  clear hW0
  refine wpIn_rangeFunc_ownG rfl (by omega) (gf := 30) (lb := #[.pointer (some ⟨W1.heap.size + 1, 0, none⟩)]) rfl trivial (enters_of Try.func30 (by kernel_rfl) rfl)
    (zsp_stops Fence.wide 8 trivial rfl (by omega) (W1.heap.size + 1) (W1.heap.size) (W1.heap.size + 2) b o n c xs (by omega) HN.out W0 (by omega) (by omega) (by omega) (by omega) (by omega) bL.cell (fun j hj => (hB0.cell (p := ⟨b, o + j, none⟩) hbB).trans (HC.out j hj))) But.trans (butK_b (by omega)) (Below.refl _ _) (fun _ => rfl)
    (fun pre W => (∃ v gs, Boxed W (W1.heap.size) 32 v ∧ W.ownsRow (W1.heap.size + 2) 24 1 v (flp le pre).length (gs.map sl2) ∧ Prs W (W1.heap.size + 2) gs (flp le pre)) ∧ Boxed W w.heap.size 2 (.int .i64 le) ∧ Below w.heap.size w W ∧ W1.heap.size + 2 ≤ W.heap.size)
    (fun _ _ _ => False)
    (OwnFrom.and (Own.from (prs_own (W1.heap.size) (W1.heap.size + 2) 32 (flp le)) _) (OwnFrom.and (Own.from (boxed_own' w.heap.size 2 (fun _ => .int .i64 le)) _) (OwnFrom.and (ownFrom_below (Nat.le_refl _) (by omega)) (fun _ _ _ _ hs hg _ => Nat.le_trans hs hg.size))))
    (fun _ _ _ _ _ hs _ _ => hs)
    ⟨⟨_, [], bO, World.ownsRow_nil _ _ _ _, ⟨rfl, fun j hj => absurd hj (by simp [flp]), fun i j _ hj => absurd hj (by simp [flp])⟩⟩, bM, hB0, by omega⟩
    (fun x => { tmps := #[.slice (some ⟨b, o, none⟩) n c, .int .i64 le, undef, .pointer (some ⟨w.heap.size, 0, none⟩), .slice none 0 0, .int .i64 0, .int .i64 0, .pointer (some ⟨W1.heap.size, 0, none⟩), .int .i64 (x.1 : Int), .int .i64 (x.2 : Int), .slice (some ⟨b, o, none⟩) n c, .int .i64 le, .bool true, .int .i64 0, .int .i64 0, .bool false, undef, .slice (some ⟨b, o, none⟩) n c, .func (.func 30) #[] #[.pointer (some ⟨W1.heap.size + 1, 0, none⟩)], .int .i64 (x.1 : Int), .int .i64 (x.2 : Int), undef, undef, undef, undef, undef, undef, undef, undef, undef, undef], defers := [] }) ?assign ?body ?done ?stop
  case assign =>
    intro l x W K hK
    dsimp only [encP]
    gi_wp2
    exact hK
  case body =>
    rintro l pre x W ⟨⟨v, gs, hv, hrow, hprs⟩, hM, hB, h3⟩ hlt
    have hc := hv.cell
    have hcM := hM.cell
    have hfl := flp_len le pre
    have hlt' : W1.heap.size < W.heap.size := by omega
    have hlt'' : w.heap.size < W.heap.size := by omega
    by_cases hm : le ≤ (x.2 : Int)
    · have hy := flp_yes (ps := pre) hm
      gi_wp2_with (gi_at_builtin; refine wplIn_appV rfl (.tmp 24) (.tmp 28) rfl (W.alloc _) (W1.heap.size + 2) (flp le pre).length (W.heap.size + 1) _ _ (sl2 W.heap.size) (by simp) rfl (by exact hrow.alloc _) rfl rfl (by omega) (by simp; omega) ?_; intro v1 w1 hown1 hg1; obtain ⟨g', cap', rfl⟩ := ownsRow_succ hown1; obtain ⟨hv1, hv2, hr2, hp2, hk2, hb2⟩ := pair_app x.1 x.2 hv (by omega) hprs hrow h3 hown1 hg1; have hc1 := hv1.cell; have hf1 := hv1.frozen)
      have hM2 : Boxed (w1.setCell ⟨W1.heap.size, 0, none⟩ (.slice (some ⟨g', 0, none⟩) ((flp le pre).length + 1) cap')) w.heap.size 2 (.int .i64 le) := (hb2.block w.heap.size (by omega) (by omega)).trans hM
      exact ⟨hk2.from _, hb2, ⟨_, _, hv2, by rw [hy, List.length_append, List.length_singleton]; exact hr2, by rw [hy]; exact hp2⟩, hM2, hB.trans (hb2.below (by omega) (by omega)), Nat.le_trans h3 hb2.size⟩
    · have hy := flp_no (ps := pre) hm
      gi_wp2
      exact ⟨KeepsFrom.refl _ _, But.refl _ _ _, ⟨v, hv, gs, by rw [hy]; exact hrow, by rw [hy]; exact hprs⟩, hM, hB, h3⟩
  case done =>
    rintro D ys W hD rfl ⟨⟨v, gs, hv, hrow, hprs⟩, hM, hB, h3⟩ hK
    have hc := hv.cell
    gi_wp2
    refine ⟨by simp, .inl ⟨_, _, rfl, run_takeDeferred hK, ?_⟩⟩
    have hrow2 := ownsRow_putObj hrow (.deferred none) hK rfl
    have hprs2 := hprs.putObj (.deferred none) hK rfl
    obtain ⟨A, d, rfl⟩ := own_sl hrow2
    exact ⟨_, results_tmp2 rfl _ _ _, A, d, gs, rfl, hB.trans (belowK_b (w := w) (Nat.le_refl _) W D _ _ (by omega) hK rfl rfl), own_mono' hrow2 (by omega), hprs2.mono (by omega)⟩
  case stop =>
    rintro D c' pre W _ _ h _
    exact h.elim

end Go.Proofs.Ythjcpgabdlfojaa
