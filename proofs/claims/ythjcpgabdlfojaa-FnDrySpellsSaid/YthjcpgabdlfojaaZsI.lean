/- The program's iterator over stretches of zeros. -/
import Derived.Test.YthjcpgabdlfojaaDryP
import Derived.Test.YthjcpgabdlfojaaIter
namespace Go.Proofs.Ythjcpgabdlfojaa
open Go.RowKit Go.Shelf
attribute [local go_sem] Oper.semAt_some

def encP (x : Nat × Nat) : Array Value := #[.int .i64 (x.1 : Int), .int .i64 (x.2 : Int)]

set_option maxRecDepth 100000 in
set_option maxHeartbeats 4000000 in
theorem zsp1_in (F : Fence) (n : Nat) (hf : F.fn 30) (hro : F.round = none) (hn : 1 ≤ n) (l Bs e₀ n₀ b off len cap : Nat) (xs : List Int) (h120 : len ≤ 1000) (hnn : ∀ j, j < len → 0 ≤ xs.getD j 0) (J Jx : List (Nat × Nat) → World → Prop)
    (hY : ∀ pre x W, J pre W → pre.length < len → YieldAt F (n - 1) Try.prog l (encP x) W fun e W' =>
      (e = .returned (.bool true) ∧ J (pre ++ [x]) W' ∧ But e₀ n₀ W W') ∨ (e = .returned (.bool false) ∧ Jx (pre ++ [x]) W'))
    (W : World) (hBs : Bs < n₀) (hBs' : Bs ≠ e₀) (hcs : W.cell? ⟨Bs, 0, none⟩ = some (.slice (some ⟨b, off, none⟩) len cap)) (hb : b < n₀) (hb' : b ≠ e₀) (hc : ∀ j, j < len → W.cell? ⟨b, off + j, none⟩ = some (.int .i64 (xs.getD j 0))) (h0 : J [] W) :
    CallsIn F n Try.prog 30 #[.func (.yield l) #[] #[], .pointer (some ⟨Bs, 0, none⟩)] W fun e W' => (∃ v, e = .returned v) ∧
      ((∃ ys, ys = spN xs len len ∧ J ys W') ∨ (∃ pre, True ∧ Jx pre W')) := by
  have HC := Lib.hid hc
  have HN := Lib.hid hnn
  clear hc hnn
  refine callsIn_of_wp Try.func30 rfl hf ?_ hro
  simp only [Try.ntmps30, List.size_toArray, List.length_cons, List.length_nil, Nat.reduceAdd, Nat.reduceSub, Array.replicate_succ, Array.replicate_zero, List.push_toArray, List.append_toArray, List.nil_append, List.cons_append]
  gi_wp2
  gi_loopw [3, 4, 5, 6, 9] (fun d _ _ _ i wr => ∃ k : Nat, k ≤ len ∧ i = .int .i64 (k : Int) ∧ d = .int .i64 (dryN xs k : Int) ∧ J (spN xs len k) wr ∧ But e₀ n₀ W wr)
    (fun _ _ _ _ i _ => len - (intOf i).toNat)
  case atStart => exact ⟨0, Nat.zero_le _, rfl, rfl, h0, But.refl _ _ _⟩
  case round =>
    obtain ⟨k, hk, rfl, rfl, hJs, hnx⟩ := hrel
    have c2 := (hnx.cell hBs hBs').trans hcs
    by_cases hlt : k < len
    · have c1 := (hnx.cell (o := off + k) hb hb').trans (HC.out k hlt)
      have hdl := dryN_le xs k
      have hn0 := HN.out k hlt
      by_cases hx : 0 < xs.getD k 0
      · obtain ⟨e1, e2⟩ := sp_next (n := len) hx
        have E1 := Lib.hid e1
        have E2 := Lib.hid e2
        clear e1 e2
        obtain ⟨x, hxx⟩ : ∃ x, x = xs.getD k 0 := ⟨_, rfl⟩
        rw [← hxx] at c1 hx
        clear hxx hn0
        have x0 : (x != 0) = true := by simp; omega
        gi_wp2
        go_roundw
        case rel => exact ⟨k + 1, by omega, by simp, by rw [E2.out]; simp, by rw [E1.out]; exact hJs, hnx⟩
        case measure => simp [intOf]; omega
      · have hd : dryN xs (k + 1) = dryN xs k + 1 := by simp only [dryN]; rw [if_neg hx]
        have HD := Lib.hid hd
        have hsl := spN_len xs len k
        by_cases hend : k + 1 = len
        · have ht : endD xs len k = true := decide_eq_true ⟨hx, .inl hend⟩
          have HS := Lib.hid (spN_yes ht)
          rw [hd] at HS
          obtain ⟨fn, tmps, assign, body, hy, hR⟩ := hY _ (k + 1 - (dryN xs k + 1), dryN xs k + 1) wr hJs (by omega)
          have q1 : ((k + 1 - (dryN xs k + 1) : Nat) : Int) = (k : Int) + 1 - ((dryN xs k : Int) + 1) := by omega
          have q2 : ((dryN xs k + 1 : Nat) : Int) = (dryN xs k : Int) + 1 := by omega
          dsimp only [encP] at hy
          rw [q1, q2] at hy
          have q3 : ((k : Int) == (len : Int) - 1) = true := by simp; omega
          obtain ⟨x, hxx⟩ : ∃ x, x = xs.getD k 0 := ⟨_, rfl⟩
          rw [← hxx] at c1 hx hn0
          obtain rfl : x = 0 := by omega
          clear hxx ht hd q1 q2 hn0
          gi_wp2
          refine hR.mono ?_
          rintro e W3 (⟨rfl, hJ3, hk3⟩ | ⟨rfl, hJx3⟩)
          · gi_wp2
            go_roundw
            case rel => exact ⟨k + 1, by omega, by simp, by rw [HD.out]; simp, by rw [HS.out]; exact hJ3, hnx.trans hk3⟩
            case measure => simp [intOf]; omega
          · gi_wp2
            refine bodyPost_ret (results_none rfl _ _ _) rfl ?_
            exact ⟨⟨_, rfl⟩, .inr ⟨_, trivial, hJx3⟩⟩
        · have c3 := (hnx.cell (o := off + (k + 1)) hb hb').trans (HC.out (k + 1) (by omega))
          have q3 : ((k : Int) == (len : Int) - 1) = false := by simp; omega
          have q4 : k + 1 < len := by omega
          have hn1 := HN.out (k + 1) q4
          have q5 : (k : Int) + 1 < (len : Int) := by omega
          by_cases hx2 : 0 < xs.getD (k + 1) 0
          · have ht : endD xs len k = true := decide_eq_true ⟨hx, .inr hx2⟩
            have HS := Lib.hid (spN_yes ht)
            rw [hd] at HS
            obtain ⟨fn, tmps, assign, body, hy, hR⟩ := hY _ (k + 1 - (dryN xs k + 1), dryN xs k + 1) wr hJs (by omega)
            have q1 : ((k + 1 - (dryN xs k + 1) : Nat) : Int) = (k : Int) + 1 - ((dryN xs k : Int) + 1) := by omega
            have q2 : ((dryN xs k + 1 : Nat) : Int) = (dryN xs k : Int) + 1 := by omega
            dsimp only [encP] at hy
            rw [q1, q2] at hy
            obtain ⟨x, hxx⟩ : ∃ x, x = xs.getD k 0 := ⟨_, rfl⟩
            rw [← hxx] at c1 hx
            obtain ⟨y, hyy⟩ : ∃ x, x = xs.getD (k + 1) 0 := ⟨_, rfl⟩
            rw [← hyy] at c3 hx2
            rw [← hxx] at hn0
            obtain rfl : x = 0 := by omega
            have y0 : (y != 0) = true := by simp; omega
            clear hxx hyy ht hd q1 q2 hn0 hn1
            gi_wp2
            refine hR.mono ?_
            rintro e W3 (⟨rfl, hJ3, hk3⟩ | ⟨rfl, hJx3⟩)
            · gi_wp2
              go_roundw
              case rel => exact ⟨k + 1, by omega, by simp, by rw [HD.out]; simp, by rw [HS.out]; exact hJ3, hnx.trans hk3⟩
              case measure => simp [intOf]; omega
            · gi_wp2
              refine bodyPost_ret (results_none rfl _ _ _) rfl ?_
              exact ⟨⟨_, rfl⟩, .inr ⟨_, trivial, hJx3⟩⟩
          · have ht : endD xs len k = false := decide_eq_false (fun g => by rcases g.2 with g | g <;> omega)
            have HS := Lib.hid (spN_no ht)
            obtain ⟨x, hxx⟩ : ∃ x, x = xs.getD k 0 := ⟨_, rfl⟩
            rw [← hxx] at c1 hx
            obtain ⟨y, hyy⟩ : ∃ x, x = xs.getD (k + 1) 0 := ⟨_, rfl⟩
            rw [← hyy] at c3 hx2 hn1
            rw [← hxx] at hn0
            obtain rfl : x = 0 := by omega
            obtain rfl : y = 0 := by omega
            clear hxx hyy ht hd hn0 hn1
            gi_wp2
            refine ⟨fun _ h => (by cases h), ?_⟩
            gi_wp2
            go_roundw
            case rel => exact ⟨k + 1, by omega, by simp, by rw [HD.out]; simp, by rw [HS.out]; exact hJs, hnx⟩
            case measure => simp [intOf]; omega
    · obtain rfl : k = len := by omega
      gi_wp2
      go_end0
      exact ⟨⟨_, rfl⟩, .inl ⟨_, rfl, hJs⟩⟩

set_option maxHeartbeats 1000000 in
theorem zsp_in (F : Fence) (n : Nat) (hf : F.fn 21) (hro : F.round = none) (a : Option Addr) (len cap : Nat) (w : World) :
    CallsIn F n Try.prog 21 #[.slice a len cap] w fun e w' => e = .returned (.func (.func 30) #[] #[.pointer (some ⟨w.heap.size, 0, none⟩)]) ∧ w' = w.alloc (.cells #[.slice a len cap] 24) := by
  refine callsIn_of_wp Try.func21 rfl hf ?_ hro
  simp only [Try.ntmps21, List.size_toArray, List.length_cons, List.length_nil, Nat.reduceAdd, Nat.reduceSub, Array.replicate_succ, Array.replicate_zero, List.push_toArray, List.append_toArray, List.nil_append, List.cons_append]
  gi_wp2
  go_ret
  exact ⟨rfl, rfl⟩

theorem zsp_stops (F : Fence) (n : Nat) (hf : F.fn 30) (hro : F.round = none) (hn : 1 ≤ n) (Bs e₀ n₀ b off len cap : Nat) (xs : List Int) (h120 : len ≤ 1000) (hnn : ∀ j, j < len → 0 ≤ xs.getD j 0) (w : World) (hBs : Bs < n₀) (hBs' : Bs ≠ e₀) (hn₀ : n₀ ≤ w.heap.size) (hb : b < n₀) (hb' : b ≠ e₀)
    (hcs : w.cell? ⟨Bs, 0, none⟩ = some (.slice (some ⟨b, off, none⟩) len cap)) (hc : ∀ j, j < len → w.cell? ⟨b, off + j, none⟩ = some (.int .i64 (xs.getD j 0))) :
    SeqStopsK F n Try.prog 30 #[.pointer (some ⟨Bs, 0, none⟩)] encP (But e₀ n₀) (fun ys => ys = spN xs len len) (fun _ => True) len w := fun l J Jx W hW _ _ hY h0 =>
  zsp1_in F n hf hro hn l Bs e₀ n₀ b off len cap xs h120 hnn J Jx hY W hBs hBs' ((hW.cell (p := ⟨Bs, 0, none⟩) (by show Bs < w.heap.size; omega)).trans hcs) hb hb' (fun j hj => (hW.cell (p := ⟨b, off + j, none⟩) (by show b < w.heap.size; omega)).trans (hc j hj)) h0

end Go.Proofs.Ythjcpgabdlfojaa
