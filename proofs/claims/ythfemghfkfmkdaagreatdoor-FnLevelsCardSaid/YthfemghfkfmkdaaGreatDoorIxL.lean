/- The indices that have something, by a closure that is known by contract. -/
import Derived.Test.YthfemghfkfmkdaaGreatDoorIx
namespace Go.Proofs.YthfemghfkfmkdaaGreatDoor
open Go.RowKit

set_option maxRecDepth 100000 in
set_option maxHeartbeats 3200000 in
theorem ix_wg (c0 c1 c2 : Value) (n : Nat) (p : Nat → Bool) (w : World) (hn : n ≤ 1000000)
    (hf : ∀ (i : Int) (h : Nat) (W : World) (v : Bool), i = (h : Int) → h < n → Below w.heap.size w W → v = p h → Calls Tryz.prog 35 #[.int .i64 i, c0, c1, c2] W fun e w' => e = .returned (.bool v) ∧ Below W.heap.size W w') :
    Calls Tryz.prog 34 #[.int .i64 (n : Int), .func (.func 35) #[] #[c0, c1, c2]] w fun e w' => ∃ B d, e = .returned (.slice B (ixN p n).length d) ∧ Below w.heap.size w w' ∧ Wr w' w.heap.size B (ixN p n).length (ixN p n) := by
  have HF := Lib.hid hf
  clear hf
  go_enter Tryz.func34, Tryz.ntmps34
  go_wp2
  go_loopw [5, 6, 8] (fun v _ i wr => ∃ k : Nat, k ≤ n ∧ i = .int .i64 (k : Int) ∧ Below w.heap.size w wr ∧ w.heap.size ≤ wr.heap.size ∧ wr.ownsRow w.heap.size 2 1 v (ixN p k).length ((ixN p k).map (Value.int .i64))) (fun _ _ i _ => n - (intOf i).toNat)
  case atStart => exact ⟨0, by omega, rfl, Below.refl _ _, Nat.le_refl _, World.ownsRow_nil _ _ _ _⟩
  case round =>
    obtain ⟨k, hk, rfl, hb, hz, hown⟩ := hrel
    have hll := ixN_len p k
    by_cases hlt : k < n
    · cases hp : p k with
      | true =>
        have HQ := Lib.hid hp.symm
        have HS := Lib.hid (ixN_yes hp)
        clear hp
        generalize ixN p k = L at *
        go_wp2_with (first | (go_at_call 35; refine (HF.out _ k _ true rfl hlt hb HQ.out).mono ?_; rintro e1 W1 ⟨rfl, b1⟩; have s1 := b1.size; have hown2 := owns_below hown b1) | (at_builtin; refine wpl_app1x rfl _ _ rfl _ _ rfl _ _ _ _ _ rfl (by exact hown2) rfl (by omega) (by omega) ?_; intro v1 w1 hown1 hb1 hz1))
        go_roundw
        case rel => exact ⟨k + 1, by omega, by go_num, (hb.trans (b1.mono hz)).trans hb1, by omega, by have h3 := hown1; rw [show L.length + 1 = (L ++ [(k : Int)]).length by simp] at h3; rw [HS.out]; exact h3⟩
        case measure => simp [intOf]; omega
      | false =>
        have HQ := Lib.hid hp.symm
        have HS := Lib.hid (ixN_no hp)
        clear hp
        generalize ixN p k = L at *
        go_wp2_with (first | (go_at_call 35; refine (HF.out _ k _ false rfl hlt hb HQ.out).mono ?_; rintro e1 W1 ⟨rfl, b1⟩; have s1 := b1.size; have hown2 := owns_below hown b1))
        go_roundw
        case rel => exact ⟨k + 1, by omega, by go_num, hb.trans (b1.mono hz), by omega, by rw [HS.out]; exact hown2⟩
        case measure => simp [intOf]; omega
    · obtain rfl : k = n := by omega
      obtain ⟨B, d, rfl, hw⟩ := own_wr hown
      go_wp2
      go_ret
      exact ⟨B, d, rfl, hb, hw⟩

set_option maxRecDepth 100000 in
set_option maxHeartbeats 3200000 in
theorem ix_rf (c0 c1 : Value) (n : Nat) (p : Nat → Bool) (w : World) (hn : n ≤ 1000000)
    (hf : ∀ (i : Int) (h : Nat) (W : World) (v : Bool), i = (h : Int) → h < n → Below w.heap.size w W → v = p h → Calls Tryz.prog 45 #[.int .i64 i, c0, c1] W fun e w' => e = .returned (.bool v) ∧ Below W.heap.size W w') :
    Calls Tryz.prog 34 #[.int .i64 (n : Int), .func (.func 45) #[] #[c0, c1]] w fun e w' => ∃ B d, e = .returned (.slice B (ixN p n).length d) ∧ Below w.heap.size w w' ∧ Wr w' w.heap.size B (ixN p n).length (ixN p n) := by
  have HF := Lib.hid hf
  clear hf
  go_enter Tryz.func34, Tryz.ntmps34
  go_wp2
  go_loopw [5, 6, 8] (fun v _ i wr => ∃ k : Nat, k ≤ n ∧ i = .int .i64 (k : Int) ∧ Below w.heap.size w wr ∧ w.heap.size ≤ wr.heap.size ∧ wr.ownsRow w.heap.size 2 1 v (ixN p k).length ((ixN p k).map (Value.int .i64))) (fun _ _ i _ => n - (intOf i).toNat)
  case atStart => exact ⟨0, by omega, rfl, Below.refl _ _, Nat.le_refl _, World.ownsRow_nil _ _ _ _⟩
  case round =>
    obtain ⟨k, hk, rfl, hb, hz, hown⟩ := hrel
    have hll := ixN_len p k
    by_cases hlt : k < n
    · cases hp : p k with
      | true =>
        have HQ := Lib.hid hp.symm
        have HS := Lib.hid (ixN_yes hp)
        clear hp
        generalize ixN p k = L at *
        go_wp2_with (first | (go_at_call 45; refine (HF.out _ k _ true rfl hlt hb HQ.out).mono ?_; rintro e1 W1 ⟨rfl, b1⟩; have s1 := b1.size; have hown2 := owns_below hown b1) | (at_builtin; refine wpl_app1x rfl _ _ rfl _ _ rfl _ _ _ _ _ rfl (by exact hown2) rfl (by omega) (by omega) ?_; intro v1 w1 hown1 hb1 hz1))
        go_roundw
        case rel => exact ⟨k + 1, by omega, by go_num, (hb.trans (b1.mono hz)).trans hb1, by omega, by have h3 := hown1; rw [show L.length + 1 = (L ++ [(k : Int)]).length by simp] at h3; rw [HS.out]; exact h3⟩
        case measure => simp [intOf]; omega
      | false =>
        have HQ := Lib.hid hp.symm
        have HS := Lib.hid (ixN_no hp)
        clear hp
        generalize ixN p k = L at *
        go_wp2_with (first | (go_at_call 45; refine (HF.out _ k _ false rfl hlt hb HQ.out).mono ?_; rintro e1 W1 ⟨rfl, b1⟩; have s1 := b1.size; have hown2 := owns_below hown b1))
        go_roundw
        case rel => exact ⟨k + 1, by omega, by go_num, hb.trans (b1.mono hz), by omega, by rw [HS.out]; exact hown2⟩
        case measure => simp [intOf]; omega
    · obtain rfl : k = n := by omega
      obtain ⟨B, d, rfl, hw⟩ := own_wr hown
      go_wp2
      go_ret
      exact ⟨B, d, rfl, hb, hw⟩


end Go.Proofs.YthfemghfkfmkdaaGreatDoor
