/- slices.Grow of nil and slices.Concat of two, at []Tide; appends of rows of records. -/
import Derived.Test.YticbnahndidplaaDoorCatTide
import Derived.Test.YticbnahndidplaaDoorOwnS
import Derived.Lib.AppendZeros
namespace Go.Proofs.YticbnahndidplaaDoor
open Go.RowKit

set_option maxHeartbeats 400000 in
theorem growTT_t (n : Nat) (w : World) (hn : n ≤ 4194304) :
    Calls Tryd.prog 138 #[.slice none 0 0, .int .i64 (n : Int)] w fun e w' => ∃ v, e = .returned v ∧ w'.ownsRow w.heap.size 69 2 v 0 [] ∧ Below w.heap.size w w' := by
  by_cases h0 : n = 0
  · subst h0
    go_enter Tryd.func138, Tryd.ntmps138
    go_wp2
    go_ret
    exact ⟨_, rfl, World.ownsRow_nil _ _ _ _, Below.refl _ _⟩
  · obtain ⟨i0, hi, hz0, hz1, hz2⟩ := info_parts info_Tide
    have hr := fun ty => Lib.run_append_nil_zeros (P := Tryd.prog) w 106 3 ty 69 i0 (.agg #[.int .i64 0, .int .i64 0]) .i64 .i64 Tryd.underlying106 Tryd.underlying3 hi hz0 n (by omega) (by rw [hz1]; omega) (by omega) (by rw [hz2]; omega)
    have hg : n ≤ grownCap w n 0 69 := grownCap_ge w _ _ _
    have hm : grownCap w n 0 69 ≤ maxLen := grownCap_le_maxLen w n 0 69 (by unfold maxLen; omega)
    generalize grownCap w n 0 69 = G at hr hg hm
    have hown : (w.drew.alloc (.cells (Builtin.zeroCells (Value.cells (.agg #[.int .i64 0, .int .i64 0])) n ++ Builtin.zeroCells (Value.cells (.agg #[.int .i64 0, .int .i64 0])) (G - n)) 69)).ownsRow w.heap.size 69 2 (.slice (some ⟨w.heap.size, 0, none⟩) 0 G) 0 [] :=
      World.ownsRow_made w.drew _ _ (Nat.le_refl _) hm (by
        rw [Array.size_append, size_zeroCells, size_zeroCells]
        show n * 2 + (G - n) * 2 = G * 2
        omega)
    have HO := Lib.hid hown
    have HG := Lib.hid hg
    have HM := Lib.hid hm
    clear hown hi hz0 hz1 hz2 hm
    have hG1 : G ≤ 9223372036854775807 := by have := HM.out; unfold maxLen at this; omega
    have h1 : (0 : Int) < (n : Int) := by omega
    go_enter Tryd.func138, Tryd.ntmps138
    go_wp2_with (at_builtin; refine Lib.wpList_append_run _ rfl _ _ _ _ rfl _ _ rfl rfl _ _ (hr _) ?_)
    go_ret
    exact ⟨_, rfl, HO.out, (Below.refl _ _).drew.alloc (Nat.le_refl _) _⟩

theorem run_app_noneTT (W : World) (base : Nat) (ty : TypeId) (v : Value) (n : Nat) (cs : List Value) (hown : W.ownsRow base 69 2 v n cs) (c : Nat) :
    (Builtin.append_ #[106, 106] ty #[v, .slice none 0 c]).run Tryd.prog W = .ok v W := by
  obtain ⟨i0, hi, hz0, hz1, hz2⟩ := info_parts info_Tide
  rcases hown.2 with ⟨rfl, rfl⟩ | ⟨g, cap, cur, rfl, _, _, hnc, _⟩
  · simp [Builtin.append_, run_underlying Tryd.underlying106, sizeOf, typeInfo, hi, Builtin.lenOf, Builtin.firstCells]
  · simp [Builtin.append_, run_underlying Tryd.underlying106, sizeOf, typeInfo, hi, Builtin.lenOf, Builtin.firstCells, hnc, storeCells]

set_option maxRecDepth 100000 in
/-- 'append(v, x...)' onto a row of the call's own, x a row of records, nil or not -/
theorem wpAppTT {o : Oper} {a : Act} {K : Act → World → Prop} {Q : Exit → Act → World → Prop} (s x : Operand)
    (ho : o.op = .call { callee := .builtin .append, args := #[s, x], argTypes := #[106, 106] }) (W : World) (base n m c B : Nat) (A : Option Addr) (v : Value) (cs : List Value) (ys : List RTide)
    (hs : a.eval s = v) (hown : W.ownsRow base 69 2 v n cs) (hx : a.eval x = .slice A m c) (hA : Rd_Tide W B A m ys) (hn : n + m ≤ 4194304) (hbase : base ≤ W.heap.size)
    (h : ∀ v' w', w'.ownsRow base 69 2 v' (n + m) (cs ++ csTide ys) → Below base W w' → W.heap.size ≤ w'.heap.size → K (a.put o.dst v') w') :
    o.wp Tryd.prog a W K Q := by
  obtain ⟨i0, hi, hz0, hz1, hz2⟩ := info_parts info_Tide
  cases A with
  | none =>
    have hm : m = 0 := Nat.eq_zero_of_not_pos (fun h0 => by
      obtain ⟨b, off, e, _⟩ := hA.2 h0
      cases e)
    subst hm
    have hy : ys = [] := List.length_eq_zero_iff.1 hA.len
    subst hy
    refine Lib.wp_append_run _ s x 106 106 ho _ _ hs hx v W (run_app_noneTT W base o.type v n cs hown c) (h v W (by simpa [csTide] using hown) (Below.refl _ _) (Nat.le_refl _))
  | some ad =>
    have hcell : ∀ (j : Nat) (u : Value), (csTide ys)[j]? = some u → W.cell? (ad.add j) = some u := by
      intro j u hj
      by_cases hm : m = 0
      · subst hm
        have hy : ys = [] := List.length_eq_zero_iff.1 hA.len
        subst hy
        simp [csTide] at hj
      · obtain ⟨b, off, e, _, hc⟩ := hA.2 (by omega)
        injection e with e
        subst e
        rw [addr_add, hc j (List.getElem?_eq_some_iff.1 hj).1]
        exact hj
    refine wp_append_own (P := Tryd.prog) _ s x 106 ho base 69 i0 (.agg #[.int .i64 0, .int .i64 0]) 2 16 Tryd.underlying106 hi hz0 hz1 hz2 rfl (by decide) v n cs hs hown ad m c (csTide ys) hx (by rw [csTide_len, hA.len]) hcell (oneTide ys) (by simp only [maxLen]; omega) (by omega) hbase ?_
    intro v' w' h1 h2 _
    exact h v' w' h1 (below_row hown h2 hbase) h2.size

set_option maxRecDepth 100000 in
theorem wplAppTT {ops : Array Oper} {rest : List Oper} {o : Oper} {a : Act} {Q : Exit → Act → World → Prop} (hgd : o.guard = none) (s x : Operand)
    (ho : o.op = .call { callee := .builtin .append, args := #[s, x], argTypes := #[106, 106] }) (W : World) (base n m c B : Nat) (A : Option Addr) (v : Value) (cs : List Value) (ys : List RTide)
    (hs : a.eval s = v) (hown : W.ownsRow base 69 2 v n cs) (hx : a.eval x = .slice A m c) (hA : Rd_Tide W B A m ys) (hn : n + m ≤ 4194304) (hbase : base ≤ W.heap.size)
    (h : ∀ v' w', w'.ownsRow base 69 2 v' (n + m) (cs ++ csTide ys) → Below base W w' → W.heap.size ≤ w'.heap.size → wpList Tryd.prog ops Q rest (a.put o.dst v') w') :
    wpList Tryd.prog ops Q (o :: rest) a W :=
  wpList_plain hgd fun _ hK => wpAppTT s x ho W base n m c B A v cs ys hs hown hx hA hn hbase fun v' w' h1 h2 h3 => hK _ _ (h v' w' h1 h2 h3)

set_option maxRecDepth 100000 in
set_option maxHeartbeats 1600000 in
theorem concatTT_t (g : Nat) (A B : Option Addr) (n m c d : Nat) (xs ys : List RTide) (w : World) (hg : g < w.heap.size) (c0 : w.cell? ⟨g, 0, none⟩ = some (.slice A n c)) (c1 : w.cell? ⟨g, 1, none⟩ = some (.slice B m d)) (hn : n ≤ 1048576) (hm : m ≤ 1048576) (ha : Rd_Tide w w.heap.size A n xs) (hb : Rd_Tide w w.heap.size B m ys) :
    Calls Tryd.prog 122 #[.slice (some ⟨g, 0, none⟩) 2 2] w fun e w' => ∃ B' d', e = .returned (.slice B' (n + m) d') ∧ Below w.heap.size w w' ∧ Wr_Tide w' w.heap.size B' (n + m) (xs ++ ys) := by
  have HA := Lib.hid ha
  have HB := Lib.hid hb
  have HG := Lib.hid hg
  have N1 := Lib.hid (show 0 + n ≤ 4194304 by omega)
  have N2 := Lib.hid (show n + m ≤ 4194304 by omega)
  clear ha hb
  go_enter Tryd.func122, Tryd.ntmps122
  go_wp2
  go_loop [3, 5, 11] (fun z _ i => (i = .int .i64 0 ∧ z = .int .i64 0) ∨ (i = .int .i64 1 ∧ z = .int .i64 (n : Int)) ∨ (i = .int .i64 2 ∧ z = .int .i64 ((n : Int) + (m : Int)))) (fun _ _ i => 2 - (intOf i).toNat)
  case atStart => exact .inl ⟨rfl, rfl⟩
  case round =>
    rcases hrel with ⟨rfl, rfl⟩ | ⟨rfl, rfl⟩ | ⟨rfl, rfl⟩
    · go_wp2
      go_round
      case rel => exact .inr (.inl ⟨rfl, by simp⟩)
      case measure => simp [intOf]
    · go_wp2
      go_round
      case rel => exact .inr (.inr ⟨rfl, rfl⟩)
      case measure => simp [intOf]
    · go_wp2_with fail
      have enm : ((n : Int) + (m : Int)) = ((n + m : Nat) : Int) := by omega
      rw [enm]
      refine (growTT_t (n + m) _ (by omega)).mono ?_
      rintro e1 W1 ⟨v, rfl, hown, b1⟩
      have HO := Lib.hid hown
      have d0 := (b1.cell (p := ⟨g, 0, none⟩) HG.out).trans c0
      have d1 := (b1.cell (p := ⟨g, 1, none⟩) HG.out).trans c1
      clear hown enm
      go_wp2
      go_loopw [6, 8, 27] (fun V _ i wr => CatRelTide n m xs ys w V i wr) (fun _ _ i _ => 2 - (intOf i).toNat)
      case atStart => exact ⟨b1, .inl ⟨rfl, HO.out⟩⟩
      case round =>
        clear d0 d1
        obtain ⟨hbw, h⟩ := hrel
        have d0 := (hbw.cell (p := ⟨g, 0, none⟩) HG.out).trans c0
        have d1 := (hbw.cell (p := ⟨g, 1, none⟩) HG.out).trans c1
        have HS := Lib.hid hbw.size
        rcases h with ⟨rfl, hown⟩ | ⟨rfl, hown⟩ | ⟨rfl, hown⟩
        · have HW := Lib.hid hown
          clear hown
          go_wp2_with (at_builtin; refine wplAppTT rfl (.tmp 31) (.tmp 32) rfl wr w.heap.size 0 n c w.heap.size A _ [] xs rfl HW.out rfl (HA.out.below hbw) N1.out HS.out ?_; intro v1 w1 hown1 hb1 hz1)
          have HV := Lib.hid hown1
          clear hown1
          go_roundw
          case rel => exact ⟨hbw.trans hb1, .inr (.inl ⟨rfl, by have := HV.out; rw [Nat.zero_add, List.nil_append] at this; exact this⟩)⟩
          case measure => simp [intOf]
        · have HW := Lib.hid hown
          clear hown
          go_wp2_with (at_builtin; refine wplAppTT rfl (.tmp 31) (.tmp 32) rfl wr w.heap.size n m d w.heap.size B _ (csTide xs) ys rfl HW.out rfl (HB.out.below hbw) N2.out HS.out ?_; intro v1 w1 hown1 hb1 hz1)
          have HV := Lib.hid hown1
          clear hown1
          go_roundw
          case rel => exact ⟨hbw.trans hb1, .inr (.inr ⟨rfl, by rw [csTide_app]; exact HV.out⟩)⟩
          case measure => simp [intOf]
        · obtain ⟨B', d', rfl, hw⟩ := own_wrTide hown
          clear hown
          go_wp2
          go_ret
          exact ⟨B', d', rfl, hbw, hw⟩

end Go.Proofs.YticbnahndidplaaDoor
