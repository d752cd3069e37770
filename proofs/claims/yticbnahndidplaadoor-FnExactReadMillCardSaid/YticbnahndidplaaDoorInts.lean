/- Contracts of the laws' helpers over slices of int64: equal, copy, mark, held. -/
import Derived.Test.YticbnahndidplaaDoorBase
namespace Go.Proofs.YticbnahndidplaaDoor
open Go.RowKit

set_option maxHeartbeats 400000 in
theorem eqInts_t (A B : Option Addr) (n c d : Nat) (xs : List Int) (w : World) (hn : n ≤ 281474976710656) (ha : Rd w w.heap.size A n xs) (hb : Rd w w.heap.size B n xs) :
    Calls Tryd.prog 61 #[.slice A n c, .slice B n d] w fun e w' => e = .returned (.bool true) ∧ ∃ m, w' = w.drewN m := by
  have h0 : ((n : Int) != (n : Int)) = false := by simp
  by_cases hz : n = 0
  · subst hz
    go_enter Tryd.func61, Tryd.ntmps61
    go_wp2
    go_loopw [5] (fun i wr => i = .int .i64 0 ∧ wr = w) (fun _ _ => 0)
    case atStart => exact ⟨rfl, rfl⟩
    case round =>
      obtain ⟨rfl, rfl⟩ := hrel
      go_wp2
      go_ret
      exact ⟨rfl, 0, rfl⟩
  · obtain ⟨b, o, rfl, hbB, hc⟩ := ha.2 (by omega)
    obtain ⟨b', o', rfl, hbB', hc'⟩ := hb.2 (by omega)
    have HC := Lib.hid hc
    have HC' := Lib.hid hc'
    clear hc hc' ha hb
    go_enter Tryd.func61, Tryd.ntmps61
    go_wp2
    go_loopw [5] (fun i wr => ∃ k m : Nat, k ≤ n ∧ i = .int .i64 (k : Int) ∧ wr = w.drewN m) (fun i _ => n - (intOf i).toNat)
    case atStart => exact ⟨0, 0, by omega, rfl, rfl⟩
    case round =>
      obtain ⟨k, m, hk, rfl, rfl⟩ := hrel
      by_cases hlt : k < n
      · have c1 := HC.out k hlt
        have c2 := HC'.out k hlt
        have e1 : (xs.getD k 0 != xs.getD k 0) = false := by simp
        go_wp2
        go_quiet (fail)
        go_wp2
        go_roundw
        case rel => exact ⟨k + 1, _, by omega, by go_num, rfl⟩
        case measure => simp [intOf]; omega
      · go_wp2
        go_ret
        exact ⟨rfl, m, rfl⟩

set_option maxHeartbeats 400000 in
theorem heldInts_t (A : Option Addr) (n c : Nat) (k0 : Int) (w : World) (hn : n ≤ 281474976710656) (h1 : 0 ≤ k0) (h2 : k0 ≤ 281474976710656) (ha : Rd w w.heap.size A n (marks k0 n)) :
    Calls Tryd.prog 63 #[.slice A n c, .int .i64 k0] w fun e w' => e = .returned (.int .i64 (k0 + (n : Int))) ∧ w = w' := by
  by_cases hz : n = 0
  · subst hz
    go_enter Tryd.func63, Tryd.ntmps63
    go_wp2
    go_loop [1, 5] (fun q i => i = .int .i64 0 ∧ q = .int .i64 k0) (fun _ _ => 0)
    case atStart => exact ⟨rfl, rfl⟩
    case round =>
      obtain ⟨rfl, rfl⟩ := hrel
      go_wp2
      go_ret
      exact ⟨ret_int (by simp), rfl⟩
  · obtain ⟨b, o, rfl, hbB, hc⟩ := ha.2 (by omega)
    have HC := Lib.hid hc
    clear hc ha
    go_enter Tryd.func63, Tryd.ntmps63
    go_wp2
    go_loop [1, 5] (fun q i => ∃ k : Nat, k ≤ n ∧ i = .int .i64 (k : Int) ∧ q = .int .i64 (k0 + (k : Int))) (fun _ i => n - (intOf i).toNat)
    case atStart => exact ⟨0, by omega, rfl, by simp⟩
    case round =>
      obtain ⟨k, hk, rfl, rfl⟩ := hrel
      by_cases hlt : k < n
      · have c1 := HC.out k hlt
        rw [marks_at k0 n k hlt] at c1
        go_wp2
        go_round
        case rel => exact ⟨k + 1, by omega, by go_num, by go_num⟩
        case measure => simp [intOf]; omega
      · go_wp2
        go_ret
        exact ⟨ret_int (by omega), rfl⟩

set_option maxHeartbeats 400000 in
theorem markInts_t (A : Option Addr) (base n c : Nat) (xs : List Int) (k0 : Int) (w : World) (hn : n ≤ 281474976710656) (h1 : 0 ≤ k0) (h2 : k0 ≤ 281474976710656) (ha : Wr w base A n xs) :
    Calls Tryd.prog 62 #[.slice A n c, .int .i64 k0] w fun e w' => e = .returned (.int .i64 (k0 + (n : Int))) ∧ Below base w w' ∧ w.grownBy w' (ablk A) ∧ Wr w' base A n (marks k0 n) := by
  by_cases hz : n = 0
  · subst hz
    go_enter Tryd.func62, Tryd.ntmps62
    go_wp2
    go_loop [1, 5] (fun q i => i = .int .i64 0 ∧ q = .int .i64 k0) (fun _ _ => 0)
    case atStart => exact ⟨rfl, rfl⟩
    case round =>
      obtain ⟨rfl, rfl⟩ := hrel
      go_wp2
      go_ret
      exact ⟨ret_int (by simp), Below.refl _ _, World.grownBy.refl _ _, ⟨rfl, fun h => absurd h (by omega)⟩⟩
  · obtain ⟨b, o, rfl, h0, hbB, hc⟩ := ha.2 (by omega)
    have HC := Lib.hid hc
    clear hc ha
    go_enter Tryd.func62, Tryd.ntmps62
    go_wp2
    go_loopw [1, 5] (fun q i wr => ∃ k : Nat, k ≤ n ∧ i = .int .i64 (k : Int) ∧ q = .int .i64 (k0 + (k : Int)) ∧ w.grownBy wr (some b) ∧ Half n b o (fun j => k0 + (j : Int)) xs k wr) (fun _ i _ => n - (intOf i).toNat)
    case atStart => exact ⟨0, by omega, rfl, by simp, World.grownBy.refl _ _, fun j hj => by simpa using HC.out j hj⟩
    case round =>
      obtain ⟨k, hk, rfl, rfl, hg, hr⟩ := hrel
      by_cases hlt : k < n
      · obtain ⟨c1, c2⟩ := hr k hlt
        rw [if_neg (by omega)] at c1
        go_wp2
        go_roundw
        case rel => exact ⟨k + 1, by omega, by go_num, by go_num, hg.trans (gb_setCell wr ⟨b, o + k, none⟩ _), hr.step _ rfl⟩
        case measure => simp [intOf]; omega
      · go_wp2
        go_ret
        obtain rfl : k = n := by omega
        exact ⟨rfl, (Below.refl _ _).grown hg (by omega) (fun k hk => by injection hk with hk; omega), hg, hr.done (marks_len _ _) (fun j hj => marks_at _ _ _ hj) h0 (Nat.lt_of_lt_of_le hbB hg.size)⟩

theorem info_i64 : (Tryd.prog.info? 2).map (fun i => (i.zero, i.size, i.bytes)) = some (some (.int .i64 0), 1, 8) := by kernel_rfl

/-- 'out = append(out, y)' onto a row of the call's own, whether it grows or not. -/
theorem wpl_app1 {ops : Array Oper} {rest : List Oper} {o : Oper} {a : Act} {Q : Exit → Act → World → Prop} (hgd : o.guard = none) (s x : Operand)
    (ho : o.op = .call { callee := .builtin .append, args := #[s, x], argTypes := #[45, 45] }) (W : World) (base n : Nat) (v : Value) (xs : List Int) (y : Int)
    (hs : a.eval s = v) (hown : W.ownsRow base 2 1 v n (xs.map (Value.int .i64))) (hx : a.eval x = .slice (some ⟨W.heap.size, 0, none⟩) 1 1) (hn : n ≤ 1048576) (hbase : base ≤ W.heap.size)
    (h : ∀ v' w', w'.ownsRow base 2 1 v' (n + 1) ((xs ++ [y]).map (Value.int .i64)) → Below base W w' → W.heap.size ≤ w'.heap.size → wpList Tryd.prog ops Q rest (a.put o.dst v') w') :
    wpList Tryd.prog ops Q (o :: rest) a (W.alloc (.cells #[.int .i64 y] 2)) := by
  obtain ⟨i0, hi, hz0, hz1, hz2⟩ := info_parts info_i64
  refine wpList_append_own (P := Tryd.prog) _ hgd s x 45 ho base 2 i0 (.int .i64 0) 1 8 Tryd.underlying45 hi hz0 hz1 hz2 rfl (by decide) v n (xs.map (Value.int .i64)) hs (hown.alloc _) ⟨W.heap.size, 0, none⟩ 1 1 [.int .i64 y] hx rfl ?_ ?_ (by simp only [maxLen]; omega) (by omega) (by simp; omega) ?_
  · intro j u hj
    cases j with
    | zero => simp at hj; subst hj; simp [Addr.add]
    | succ j => simp at hj
  · intro u hu
    simp at hu
    subst hu
    rfl
  · intro v' w' h1 h2 _
    have hb := below_row (hown.alloc _) h2 (by simp; omega)
    have hz := h2.size
    simp at hz
    exact h v' w' (by simpa using h1) (((Below.refl _ _).alloc hbase _).trans hb) (by omega)

end Go.Proofs.YticbnahndidplaaDoor
