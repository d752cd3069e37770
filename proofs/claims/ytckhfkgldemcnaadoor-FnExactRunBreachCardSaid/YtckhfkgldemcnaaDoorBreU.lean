/- Breaches: hour after hour, as long as something holds; a deferred closure that recovers. -/
import Derived.Test.YtckhfkgldemcnaaDoorBreQ
import Derived.Defers
import Derived.Recover
import Derived.Laws.Pointers
namespace Go.Proofs.YtckhfkgldemcnaaDoor
open Go.RowKit

def noHourP : PanicEntry := { v := .iface 96 (.agg #[]), recovered := false }

set_option maxRecDepth 100000 in
set_option maxHeartbeats 1600000 in
theorem catch_panicking (r : Nat) (x : Bool) (w : World) (hc : w.cell? ⟨r, 0, none⟩ = some (.bool x)) (hz : w.frozen? ⟨r, 0, none⟩ = false) :
    CallsD Tryd.prog 92 #[.pointer (some ⟨r, 0, none⟩)] (.panicking [noHourP]) w fun e u' w' =>
      e = .returned (.tuple #[]) ∧ u' = .panicking [{ v := .iface 96 (.agg #[]), recovered := true }] ∧ w' = w.setCell ⟨r, 0, none⟩ (.bool true) := by
  have hta : ∀ w, (Instr.typeAssert (.iface 96 (.agg #[])) 20 96 true).run Tryd.prog w = .ok (.tuple #[.agg #[], .bool true]) w := fun _ => by kernel_rfl
  refine callsD_of_wpS Tryd.func92 rfl fun c₀ cs hu => ?_
  unfold noHourP at hu
  simp only [Tryd.ntmps92, List.size_toArray, List.length_cons, List.length_nil, Nat.reduceAdd, Nat.reduceSub, Array.replicate_succ, Array.replicate_zero, List.push_toArray, List.append_toArray, List.nil_append, List.cons_append]
  apply wpS_region
  simp [wpOpsS, go_sem, recoverD, hu, Exit.thenS, hta, hc, hz, bodyPostS, results, Tryd.results92]

set_option maxRecDepth 100000 in
set_option maxHeartbeats 1600000 in
theorem catch_idle (r : Nat) (x : Bool) (w : World) (hc : w.cell? ⟨r, 0, none⟩ = some (.bool x)) (hz : w.frozen? ⟨r, 0, none⟩ = false) :
    CallsD Tryd.prog 92 #[.pointer (some ⟨r, 0, none⟩)] .returning w fun e u' w' => e = .returned (.tuple #[]) ∧ u' = .returning ∧ w' = w.setCell ⟨r, 0, none⟩ (.bool false) := by
  have hta : ∀ w, (Instr.typeAssert .nilIface 20 96 true).run Tryd.prog w = .ok (.tuple #[.agg #[], .bool false]) w := fun _ => by kernel_rfl
  refine callsD_of_wpS Tryd.func92 rfl fun c₀ cs hu => ?_
  simp only [Tryd.ntmps92, List.size_toArray, List.length_cons, List.length_nil, Nat.reduceAdd, Nat.reduceSub, Array.replicate_succ, Array.replicate_zero, List.push_toArray, List.append_toArray, List.nil_append, List.cons_append]
  apply wpS_region
  simp [wpOpsS, go_sem, recoverD, hu, Exit.thenS, hta, hc, hz, bodyPostS, results, Tryd.results92]
  cases c₀
  simp_all

def hrs (W : World) (bk : Nat) : Nat := (intOf ((W.cell? ⟨bk, 7, none⟩).getD undef)).toNat

set_option maxRecDepth 100000 in
set_option maxHeartbeats 3200000 in
theorem lasts_t (bk : Nat) (f : FuncId) (cap : Array Value) (n : Nat) (p : Nat → Bool) (Q Q' : Nat → World → Prop) (w : World) (hbk : bk < w.heap.size)
    (hcf : ∀ W, (callFunc f cap).run Tryd.prog W = .ok (.enter f cap) W)
    (hr : ∀ k W, Q k W → hrs W bk = k)
    (h0 : Q 0 (w.alloc (.cells #[.bool false] 4)))
    (hd : ∀ k W m, Q' k W → Q' k (W.drewN m))
    (hH : ∀ k W, k ≤ n → w.heap.size < W.heap.size → Q k W → Calls Tryd.prog f cap W fun e W' => e = .returned (.bool (p k)) ∧ Q' k W' ∧ W'.heap[w.heap.size]? = W.heap[w.heap.size]? ∧ W.heap.size ≤ W'.heap.size)
    (hP : ∀ k W, k < n → w.heap.size < W.heap.size → Q' k W → Calls Tryd.prog 57 #[.pointer (some ⟨bk, 0, none⟩)] W fun e W' => e = .returned (.tuple #[]) ∧ Q (k + 1) W' ∧ W'.heap[w.heap.size]? = W.heap[w.heap.size]? ∧ W.heap.size ≤ W'.heap.size)
    (hX : ∀ W, w.heap.size < W.heap.size → Q' n W → Calls Tryd.prog 57 #[.pointer (some ⟨bk, 0, none⟩)] W fun e W' => e = .panicked [noHourP] ∧ ∃ m, W' = W.drewN m) :
    Calls Tryd.prog 60 #[.pointer (some ⟨bk, 0, none⟩), .func (.func f) #[] cap] w fun e W' => ∃ W v k, e = .returned (.bool v) ∧ Chg w.heap.size (w.heap.size + 1) W W' ∧ Q' k W ∧ k ≤ n ∧ (∀ j, j < k → p j = true) ∧ w.heap.size < W.heap.size ∧ ((v = false ∧ p k = false) ∨ (v = true ∧ k = n ∧ p n = true)) := by
  have hmf : ∀ (fn : Fn) (first cap : Array Value) (w : World), (Instr.makeFunc fn first cap).run Tryd.prog w = .ok (.func fn first cap) w := fun _ _ _ _ => rfl
  have HR := Lib.hid hr
  have HD := Lib.hid hd
  have HH := Lib.hid hH
  have HP := Lib.hid hP
  have HX := Lib.hid hX
  have H0 := Lib.hid h0
  clear hr hd hH hP hX h0
  go_enter_defers Tryd.func60, Tryd.ntmps60
  go_wp2
  go_loopw [] (fun wr => ∃ k : Nat, k ≤ n ∧ w.heap.size < wr.heap.size ∧ Hid (Q k wr) ∧ Hid (∀ j, j < k → p j = true) ∧ wr.heap[w.heap.size]? = some (.cells #[.bool false] 4 (0, 0))) (fun wr => n - hrs wr bk)
  case atStart => exact ⟨0, Nat.zero_le _, by simp, H0, fun j hj => absurd hj (by omega), heap_alloc_new w _⟩
  case round =>
    obtain ⟨k, hk, hsz, hq, hp, hh⟩ := hrel
    go_wp2_with fail
    refine (HH.out k wr hk hsz hq.out).mono ?_
    rintro e1 W1 ⟨rfl, q1, k1, s1⟩
    have hrow := k1.trans hh
    have rc : W1.cell? ⟨w.heap.size, 0, none⟩ = some (.bool false) := by rw [cell_of_row _ _ _ _ _ _ hrow]; rfl
    have rz : W1.frozen? ⟨w.heap.size, 0, none⟩ = false := frozen_of_row hrow _
    have sz1 : w.heap.size < W1.heap.size := Nat.lt_of_lt_of_le hsz s1
    cases hpk : p k
    · go_wp2
      refine leaves_cons (f := 92) (args := #[.pointer (some ⟨w.heap.size, 0, none⟩)]) (by simp) (by simp [go_sem]) ?_
      refine (catch_idle w.heap.size false (W1.setCell ⟨w.heap.size, 0, none⟩ (.bool false)) (World.cell?_setCell_same _ _ _ rc) (by simpa using rz)).mono ?_
      rintro e u' w'' ⟨rfl, rfl, rfl⟩
      simp [Leaves, settle, results, Tryd.results60, go_sem, rc]
      exact ⟨W1, ((Chg.refl' _ _ W1).set (p := ⟨w.heap.size, 0, none⟩) (Nat.le_refl _) (Nat.lt_succ_self _) _).set (p := ⟨w.heap.size, 0, none⟩) (Nat.le_refl _) (Nat.lt_succ_self _) _, k, q1, hk, hp.out, sz1, hpk⟩
    · by_cases he : k = n
      · subst he
        go_wp2_with fail
        refine (HX.out W1 sz1 q1).mono ?_
        rintro e2 W2 ⟨rfl, m, rfl⟩
        refine leaves_cons (f := 92) (args := #[.pointer (some ⟨w.heap.size, 0, none⟩)]) (by simp) (by simp [go_sem]) ?_
        refine (catch_panicking w.heap.size false (W1.drewN m) rc rz).mono ?_
        rintro e u' w'' ⟨rfl, rfl, rfl⟩
        simp [Leaves, settle, results, Tryd.results60, go_sem, rc]
        exact ⟨W1.drewN m, (Chg.refl' _ _ (W1.drewN m)).set (p := ⟨w.heap.size, 0, none⟩) (Nat.le_refl _) (Nat.lt_succ_self _) _, k, HD.out k W1 m q1, Nat.le_refl _, hp.out, sz1, rfl, hpk⟩
      · go_wp2_with fail
        refine (HP.out k W1 (by omega) sz1 q1).mono ?_
        rintro e2 W2 ⟨rfl, q2, k2, s2⟩
        go_wp2
        go_roundw
        case rel => exact ⟨k + 1, by omega, Nat.lt_of_lt_of_le sz1 s2, q2, fun j hj => by
          by_cases e : j = k
          · subst e; exact hpk
          · exact hp.out j (by omega), k2.trans hrow⟩
        case measure => rw [HR.out _ _ q2, HR.out _ _ hq.out]; omega

end Go.Proofs.YtckhfkgldemcnaaDoor
