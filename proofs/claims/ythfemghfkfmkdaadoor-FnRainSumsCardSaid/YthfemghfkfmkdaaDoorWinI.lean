/- The program's iterator over windows. -/
import Derived.Test.YthfemghfkfmkdaaDoorWin
import Derived.Test.YthfemghfkfmkdaaDoorIter
namespace Go.Proofs.YthfemghfkfmkdaaDoor
open Go.RowKit Go.Shelf
attribute [local go_sem] Oper.semAt_some

abbrev WIx (m : Nat) := { i : Nat // i < m }
def wix (m : Nat) (hm : 0 < m) (i : Nat) : WIx m := ⟨i % m, Nat.mod_lt _ hm⟩
theorem wix_val (m : Nat) (hm : 0 < m) (i : Nat) (h : i < m) : (wix m hm i).1 = i := Nat.mod_eq_of_lt h

set_option maxRecDepth 100000 in
set_option maxHeartbeats 2000000 in
theorem windows1_in (F : Fence) (n : Nat) (hf : F.fn 28) (hro : F.round = none) (hn : 1 ≤ n) (l Bd Bs e₀ n₀ b off len cap d : Nat) (hd : 1 ≤ d) (hdl : d ≤ len) (hcap : len ≤ cap) (h120 : len ≤ 120) (J Jx : List (WIx (len - d + 1)) → World → Prop)
    (hY : ∀ pre x W, J pre W → pre.length < len - d + 1 → YieldAt F (n - 1) Tryd.prog l #[.slice (some ⟨b, off + x.1, none⟩) d (cap - x.1)] W fun e W' =>
      (e = .returned (.bool true) ∧ J (pre ++ [x]) W' ∧ But e₀ n₀ W W') ∨ (e = .returned (.bool false) ∧ Jx (pre ++ [x]) W'))
    (W : World) (hBd : Bd < n₀) (hBs : Bs < n₀) (hBd' : Bd ≠ e₀) (hBs' : Bs ≠ e₀) (hcd : W.cell? ⟨Bd, 0, none⟩ = some (.int .i64 (d : Int))) (hcs : W.cell? ⟨Bs, 0, none⟩ = some (.slice (some ⟨b, off, none⟩) len cap)) (h0 : J [] W) :
    CallsIn F n Tryd.prog 28 #[.func (.yield l) #[] #[], .pointer (some ⟨Bd, 0, none⟩), .pointer (some ⟨Bs, 0, none⟩)] W fun e W' => (∃ v, e = .returned v) ∧
      ((∃ ys, ys = upto (wix (len - d + 1) (by omega)) (len - d + 1) ∧ J ys W') ∨ (∃ pre, (∃ k, k ≤ len - d + 1 ∧ pre = upto (wix (len - d + 1) (by omega)) k) ∧ Jx pre W')) := by
  refine callsIn_of_wp Tryd.func28 rfl hf ?_ hro
  simp only [Tryd.ntmps28, List.size_toArray, List.length_cons, List.length_nil, Nat.reduceAdd, Nat.reduceSub, Array.replicate_succ, Array.replicate_zero, List.push_toArray, List.append_toArray, List.nil_append, List.cons_append]
  gi_wp2
  gi_loopw [4] (fun i wr => ∃ k : Nat, k ≤ len - d + 1 ∧ i = .int .i64 ((k + d : Nat) : Int) ∧ J (upto (wix (len - d + 1) (by omega)) k) wr ∧ But e₀ n₀ W wr)
    (fun i _ => len + 1 - (intOf i).toNat)
  case atStart => exact ⟨0, Nat.zero_le _, by simp, h0, But.refl _ _ _⟩
  case round =>
    obtain ⟨k, hk, rfl, hJs, hnx⟩ := hrel
    have c1 := (hnx.cell hBd hBd').trans hcd
    have c2 := (hnx.cell hBs hBs').trans hcs
    by_cases hlt : k < len - d + 1
    · obtain ⟨fn, tmps, assign, body, hy, hR⟩ := hY _ (wix (len - d + 1) (by omega) k) wr hJs (by rw [upto_length]; exact hlt)
      rw [wix_val _ _ _ hlt] at hy
      have i1 : ((k + d : Nat) : Int) ≤ (len : Int) := by omega
      have i2 : ((k + d : Nat) : Int) - (d : Int) = (k : Int) := by omega
      have i3 : (k : Int) ≤ ((k + d : Nat) : Int) := by omega
      have i4 : ((k + d : Nat) : Int) ≤ (cap : Int) := by omega
      have i5 : k + d - k = d := by omega
      gi_wp2
      refine hR.mono ?_
      rintro e W3 (⟨rfl, hJ3, hk3⟩ | ⟨rfl, hJx3⟩)
      · gi_wp2
        go_roundw
        case rel => exact ⟨k + 1, by omega, by simp; omega, by rw [upto_succ]; exact hJ3, hnx.trans hk3⟩
        case measure => simp [intOf]; omega
      · gi_wp2
        refine bodyPost_ret (results_none rfl _ _ _) rfl ?_
        exact ⟨⟨_, rfl⟩, .inr ⟨_, ⟨k + 1, by omega, (upto_succ _ _).symm⟩, hJx3⟩⟩
    · obtain rfl : k = len - d + 1 := by omega
      have i1 : ¬ ((len - d + 1 + d : Nat) : Int) ≤ (len : Int) := by omega
      gi_wp2
      go_end0
      exact ⟨⟨_, rfl⟩, .inl hJs⟩

set_option maxHeartbeats 1000000 in
theorem windows_in (F : Fence) (n : Nat) (hf : F.fn 16) (hro : F.round = none) (a : Option Addr) (len cap : Nat) (d : Int) (w : World) :
    CallsIn F n Tryd.prog 16 #[.slice a len cap, .int .i64 d] w fun e w' => e = .returned (.func (.func 28) #[] #[.pointer (some ⟨w.heap.size + 1, 0, none⟩), .pointer (some ⟨w.heap.size, 0, none⟩)]) ∧ w' = (w.alloc (.cells #[.slice a len cap] 24)).alloc (.cells #[.int .i64 d] 3) := by
  refine callsIn_of_wp Tryd.func16 rfl hf ?_ hro
  simp only [Tryd.ntmps16, List.size_toArray, List.length_cons, List.length_nil, Nat.reduceAdd, Nat.reduceSub, Array.replicate_succ, Array.replicate_zero, List.push_toArray, List.append_toArray, List.nil_append, List.cons_append]
  gi_wp2
  go_ret
  exact ⟨rfl, rfl⟩

theorem windows_stops (F : Fence) (n : Nat) (hf : F.fn 28) (hro : F.round = none) (hn : 1 ≤ n) (Bd Bs e₀ n₀ b off len cap d : Nat) (hd : 1 ≤ d) (hdl : d ≤ len) (hcap : len ≤ cap) (h120 : len ≤ 120) (w : World) (hBd : Bd < n₀) (hBs : Bs < n₀) (hBd' : Bd ≠ e₀) (hBs' : Bs ≠ e₀) (hn₀ : n₀ ≤ w.heap.size)
    (hcd : w.cell? ⟨Bd, 0, none⟩ = some (.int .i64 (d : Int))) (hcs : w.cell? ⟨Bs, 0, none⟩ = some (.slice (some ⟨b, off, none⟩) len cap)) :
    SeqStopsK F n Tryd.prog 28 #[.pointer (some ⟨Bd, 0, none⟩), .pointer (some ⟨Bs, 0, none⟩)] (fun x : WIx (len - d + 1) => #[Value.slice (some ⟨b, off + x.1, none⟩) d (cap - x.1)]) (But e₀ n₀) (fun ys => ys = upto (wix (len - d + 1) (by omega)) (len - d + 1)) (fun pre => ∃ k, k ≤ len - d + 1 ∧ pre = upto (wix (len - d + 1) (by omega)) k) (len - d + 1) w := fun l J Jx W hW _ _ hY h0 =>
  windows1_in F n hf hro hn l Bd Bs e₀ n₀ b off len cap d hd hdl hcap h120 J Jx hY W hBd hBs hBd' hBs' ((hW.cell (p := ⟨Bd, 0, none⟩) (by show Bd < w.heap.size; omega)).trans hcd) ((hW.cell (p := ⟨Bs, 0, none⟩) (by show Bs < w.heap.size; omega)).trans hcs) h0

end Go.Proofs.YthfemghfkfmkdaaDoor
