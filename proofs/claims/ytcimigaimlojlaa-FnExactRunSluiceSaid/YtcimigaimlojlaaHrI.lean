/- The program's iterator over hours. -/
import Derived.Test.YtcimigaimlojlaaMid
namespace Go.Proofs.Ytcimigaimlojlaa
open Go.RowKit Go.Shelf
attribute [local go_sem] Oper.semAt_some

def encH (n : Nat) (xs ys : List Int) (x : HIx n) : Array Value := #[.int .i64 (x.1 : Int), .agg #[.int .i64 (xs.getD x.1 0), .int .i64 (ys.getD x.1 0)]]

set_option maxRecDepth 100000 in
set_option maxHeartbeats 6400000 in
theorem hours1_in (F : Fence) (N : Nat) (hf : F.fn 74) (hro : F.round = none) (hN : 1 ≤ N) (l B1 B2 lo hi n₀ cap cap' n : Nat) (A A' : Option Addr) (xs ys : List Int) (hn : n ≤ 1000000) (J Jx : List (HIx n) → World → Prop)
    (hJd : ∀ pre W, J pre W → J pre W.drew)
    (hY : ∀ pre x W, J pre W → pre.length < n → YieldAt F (N - 1) Try.prog l (encH n xs ys x) W fun e W' =>
      (e = .returned (.bool true) ∧ J (pre ++ [x]) W' ∧ Mid lo hi n₀ W W') ∨ (e = .returned (.bool false) ∧ Jx (pre ++ [x]) W'))
    (W : World) (h1 : B1 < n₀) (h1' : B1 < lo ∨ hi ≤ B1) (h2 : B2 < n₀) (h2' : B2 < lo ∨ hi ≤ B2) (hc1 : W.cell? ⟨B1, 0, none⟩ = some (.slice A n cap)) (hc2 : W.cell? ⟨B2, 0, none⟩ = some (.slice A' n cap')) (hlo : lo ≤ n₀) (ha : Rd W lo A n xs) (hb : Rd W lo A' n ys) (h0 : J [] W) :
    CallsIn F N Try.prog 74 #[.func (.yield l) #[] #[], .pointer (some ⟨B1, 0, none⟩), .pointer (some ⟨B2, 0, none⟩)] W fun e W' => (∃ v, e = .returned v) ∧
      ((∃ zs, vals zs = List.range n ∧ J zs W') ∨ (∃ pre, (∃ k, k ≤ n ∧ vals pre = List.range k) ∧ Jx pre W')) := by
  have HA := Lib.hid ha
  have HB := Lib.hid hb
  have hmx : Try.prog.follows .mixedOrders = true := by kernel_rfl
  clear ha hb
  refine callsIn_of_wp Try.func74 rfl hf ?_ hro
  simp only [Try.ntmps74, List.size_toArray, List.length_cons, List.length_nil, Nat.reduceAdd, Nat.reduceSub, Array.replicate_succ, Array.replicate_zero, List.push_toArray, List.append_toArray, List.nil_append, List.cons_append]
  gi_wp2
  gi_loopw [4, 7] (fun _ i wr => ∃ (k : Nat) (pre : List (HIx n)), k ≤ n ∧ i = .int .i64 (k : Int) ∧ vals pre = List.range k ∧ J pre wr ∧ Mid lo hi n₀ W wr) (fun _ i _ => n - (intOf i).toNat)
  case atStart => exact ⟨0, [], Nat.zero_le _, rfl, rfl, h0, Mid.refl _ _ _ _⟩
  case round =>
    obtain ⟨k, pre, hk, rfl, hpre, hJs, hnx⟩ := hrel
    have hpl : pre.length = k := by rw [← vals_len, hpre, List.length_range]
    by_cases hlt : k < n
    · have q1 := (hnx.cell h1 h1').trans hc1
      have q2 := (hnx.cell h2 h2').trans hc2
      obtain ⟨b, off, rfl, hbl, hc⟩ := (HA.out.below (hnx.low hlo)).2 (by omega)
      obtain ⟨b', off', rfl, hbl', hc'⟩ := (HB.out.below (hnx.low hlo)).2 (by omega)
      have c1 := hc k hlt
      have c2 := hc' k hlt
      clear hc hc'
      obtain ⟨fn, tmps, assign, bodyc, hy, hR⟩ := hY pre ⟨k, hlt⟩ wr.drew (hJd _ _ hJs) (by omega)
      simp only [encH] at hy
      obtain ⟨x, hx⟩ : ∃ x, x = xs.getD k 0 := ⟨_, rfl⟩
      obtain ⟨y, hyy⟩ : ∃ y, y = ys.getD k 0 := ⟨_, rfl⟩
      rw [← hx] at c1 hy
      rw [← hyy] at c2 hy
      clear hx hyy
      gi_wp2
      refine wpIn_region_any hmx ?_
      change wpAnyIn _ _ _ _ _ _ _ _ _ (World.drew _)
      (refine wpAnyIn_take (i := 0) (oi := ⟨some 10, _, _, _, _, _⟩) (v := ?_) hro rfl (by kernel_rfl) (by kernel_rfl) (by kernel_rfl) ?_ ?_ ?_; rotate_left 1; (focus (intro _ _ _ h; exact h)); (focus (refine ⟨Or.inl ⟨by rfl, fun w => ?_⟩, fun w => by rfl⟩; go_simp <;> try (with_reducible rfl))); try simp only [Act.put, List.setIfInBounds_toArray, List.set_cons_zero, List.set_cons_succ])
      (refine wpAnyIn_take (i := 1) (oi := ⟨some 11, _, _, _, _, _⟩) (v := ?_) hro rfl (by kernel_rfl) (by kernel_rfl) (by kernel_rfl) ?_ ?_ ?_; rotate_left 1; (focus (intro _ _ _ h; exact h)); (focus (refine ⟨Or.inl ⟨by rfl, fun w => ?_⟩, fun w => by rfl⟩; go_simp <;> try (with_reducible rfl))); try simp only [Act.put, List.setIfInBounds_toArray, List.set_cons_zero, List.set_cons_succ])
      (refine wpAnyIn_take (i := 3) (oi := ⟨some 13, _, _, _, _, _⟩) (v := ?_) hro rfl (by kernel_rfl) (by kernel_rfl) (by kernel_rfl) ?_ ?_ ?_; rotate_left 1; (focus (intro _ _ _ h; exact h)); (focus (refine ⟨Or.inl ⟨by rfl, fun w => ?_⟩, fun w => by rfl⟩; go_simp <;> try (with_reducible rfl))); try simp only [Act.put, List.setIfInBounds_toArray, List.set_cons_zero, List.set_cons_succ])
      (refine wpAnyIn_take (i := 7) (oi := ⟨some 17, _, _, _, _, _⟩) (v := ?_) hro rfl (by kernel_rfl) (by kernel_rfl) (by kernel_rfl) ?_ ?_ ?_; rotate_left 1; (focus (intro _ _ _ h; exact h)); (focus (refine ⟨Or.inl ⟨by rfl, fun w => ?_⟩, fun w => by rfl⟩; go_simp <;> try (with_reducible rfl))); try simp only [Act.put, List.setIfInBounds_toArray, List.set_cons_zero, List.set_cons_succ])
      refine wpAnyIn_ready (rs := [2, 6]) (by kernel_rfl) (by simp) ?_
      refine AllReadyIn.cons rfl (fun K hK => ?_) (AllReadyIn.cons rfl (fun K hK => ?_) AllReadyIn.nil)
      · go_simp
        refine hK _ _ ?_
        clear hK K
        (refine wpAnyIn_take (i := 4) (oi := ⟨some 14, _, _, _, _, _⟩) (v := ?_) hro rfl (by kernel_rfl) (by kernel_rfl) (by kernel_rfl) ?_ ?_ ?_; rotate_left 1; (focus (intro _ _ _ h; exact h)); (focus (refine ⟨Or.inl ⟨by rfl, fun w => ?_⟩, fun w => by rfl⟩; go_simp <;> try (with_reducible rfl))); try simp only [Act.put, List.setIfInBounds_toArray, List.set_cons_zero, List.set_cons_succ])
        refine wpAnyIn_ready (rs := [5, 6]) (by kernel_rfl) (by simp) ?_
        refine AllReadyIn.cons rfl (fun K hK => ?_) (AllReadyIn.cons rfl (fun K hK => ?_) AllReadyIn.nil)
        · go_simp
          refine hK _ _ ?_
          clear hK K
          refine wpAnyIn_ready (rs := [6]) (by kernel_rfl) (by simp) ?_
          refine AllReadyIn.cons rfl (fun K hK => ?_) AllReadyIn.nil
          · go_simp
            refine hK _ _ ?_
            clear hK K
            (refine wpAnyIn_take (i := 8) (oi := ⟨some 18, _, _, _, _, _⟩) (v := ?_) hro rfl (by kernel_rfl) (by kernel_rfl) (by kernel_rfl) ?_ ?_ ?_; rotate_left 1; (focus (intro _ _ _ h; exact h)); (focus (refine ⟨Or.inl ⟨by rfl, fun w => ?_⟩, fun w => by rfl⟩; go_simp <;> try (with_reducible rfl))); try simp only [Act.put, List.setIfInBounds_toArray, List.set_cons_zero, List.set_cons_succ])
            refine wpAnyIn_ready (rs := [9]) (by kernel_rfl) (by simp) ?_
            refine AllReadyIn.cons rfl (fun K hK => ?_) AllReadyIn.nil
            · go_simp
              refine hK _ _ ?_
              clear hK K
              (refine wpAnyIn_take (i := 10) (oi := ⟨some 20, _, _, _, _, _⟩) (v := ?_) hro rfl (by kernel_rfl) (by kernel_rfl) (by kernel_rfl) ?_ ?_ ?_; rotate_left 1; (focus (intro _ _ _ h; exact h)); (focus (refine ⟨Or.inl ⟨by rfl, fun w => ?_⟩, fun w => by rfl⟩; go_simp <;> try (with_reducible rfl))); try simp only [Act.put, List.setIfInBounds_toArray, List.set_cons_zero, List.set_cons_succ])
              refine wpAnyIn_ready (rs := [11]) (by kernel_rfl) (by simp) ?_
              refine AllReadyIn.cons rfl (fun K hK => ?_) AllReadyIn.nil
              go_simp
              refine hR.mono ?_
              rintro e W3 (⟨rfl, hJ3, hk3⟩ | ⟨rfl, hJx3⟩)
              · refine hK _ _ ?_
                clear hK K
                (refine wpAnyIn_take (i := 12) (oi := ⟨some 22, _, _, _, _, _⟩) (v := ?_) hro rfl (by kernel_rfl) (by kernel_rfl) (by kernel_rfl) ?_ ?_ ?_; rotate_left 1; (focus (intro _ _ _ h; exact h)); (focus (refine ⟨Or.inl ⟨by rfl, fun w => ?_⟩, fun w => by rfl⟩; go_simp <;> try (with_reducible rfl))); try simp only [Act.put, List.setIfInBounds_toArray, List.set_cons_zero, List.set_cons_succ])
                refine wpAnyIn_done (by kernel_rfl) ?_ _
                gi_wp2
                go_roundw
                case rel => exact ⟨k + 1, pre ++ [⟨k, hlt⟩], by omega, by simp, by rw [vals_snoc, hpre, List.range_succ], hJ3, hnx.trans hk3.undrew⟩
                case measure => simp [intOf]; omega
              · refine hK _ _ ?_
                clear hK K
                (refine wpAnyIn_take (i := 12) (oi := ⟨some 22, _, _, _, _, _⟩) (v := ?_) hro rfl (by kernel_rfl) (by kernel_rfl) (by kernel_rfl) ?_ ?_ ?_; rotate_left 1; (focus (intro _ _ _ h; exact h)); (focus (refine ⟨Or.inl ⟨by rfl, fun w => ?_⟩, fun w => by rfl⟩; go_simp <;> try (with_reducible rfl))); try simp only [Act.put, List.setIfInBounds_toArray, List.set_cons_zero, List.set_cons_succ])
                refine wpAnyIn_done (by kernel_rfl) ?_ _
                gi_wp2
                refine bodyPost_ret (results_none rfl _ _ _) rfl ?_
                exact ⟨⟨_, rfl⟩, .inr ⟨_, ⟨k + 1, by omega, by rw [vals_snoc, hpre, List.range_succ]⟩, hJx3⟩⟩
        · go_simp
          refine hK _ _ ?_
          clear hK K
          (refine wpAnyIn_take (i := 8) (oi := ⟨some 18, _, _, _, _, _⟩) (v := ?_) hro rfl (by kernel_rfl) (by kernel_rfl) (by kernel_rfl) ?_ ?_ ?_; rotate_left 1; (focus (intro _ _ _ h; exact h)); (focus (refine ⟨Or.inl ⟨by rfl, fun w => ?_⟩, fun w => by rfl⟩; go_simp <;> try (with_reducible rfl))); try simp only [Act.put, List.setIfInBounds_toArray, List.set_cons_zero, List.set_cons_succ])
          refine wpAnyIn_ready (rs := [5, 9]) (by kernel_rfl) (by simp) ?_
          refine AllReadyIn.cons rfl (fun K hK => ?_) (AllReadyIn.cons rfl (fun K hK => ?_) AllReadyIn.nil)
          · go_simp
            refine hK _ _ ?_
            clear hK K
            refine wpAnyIn_ready (rs := [9]) (by kernel_rfl) (by simp) ?_
            refine AllReadyIn.cons rfl (fun K hK => ?_) AllReadyIn.nil
            · go_simp
              refine hK _ _ ?_
              clear hK K
              (refine wpAnyIn_take (i := 10) (oi := ⟨some 20, _, _, _, _, _⟩) (v := ?_) hro rfl (by kernel_rfl) (by kernel_rfl) (by kernel_rfl) ?_ ?_ ?_; rotate_left 1; (focus (intro _ _ _ h; exact h)); (focus (refine ⟨Or.inl ⟨by rfl, fun w => ?_⟩, fun w => by rfl⟩; go_simp <;> try (with_reducible rfl))); try simp only [Act.put, List.setIfInBounds_toArray, List.set_cons_zero, List.set_cons_succ])
              refine wpAnyIn_ready (rs := [11]) (by kernel_rfl) (by simp) ?_
              refine AllReadyIn.cons rfl (fun K hK => ?_) AllReadyIn.nil
              go_simp
              refine hR.mono ?_
              rintro e W3 (⟨rfl, hJ3, hk3⟩ | ⟨rfl, hJx3⟩)
              · refine hK _ _ ?_
                clear hK K
                (refine wpAnyIn_take (i := 12) (oi := ⟨some 22, _, _, _, _, _⟩) (v := ?_) hro rfl (by kernel_rfl) (by kernel_rfl) (by kernel_rfl) ?_ ?_ ?_; rotate_left 1; (focus (intro _ _ _ h; exact h)); (focus (refine ⟨Or.inl ⟨by rfl, fun w => ?_⟩, fun w => by rfl⟩; go_simp <;> try (with_reducible rfl))); try simp only [Act.put, List.setIfInBounds_toArray, List.set_cons_zero, List.set_cons_succ])
                refine wpAnyIn_done (by kernel_rfl) ?_ _
                gi_wp2
                go_roundw
                case rel => exact ⟨k + 1, pre ++ [⟨k, hlt⟩], by omega, by simp, by rw [vals_snoc, hpre, List.range_succ], hJ3, hnx.trans hk3.undrew⟩
                case measure => simp [intOf]; omega
              · refine hK _ _ ?_
                clear hK K
                (refine wpAnyIn_take (i := 12) (oi := ⟨some 22, _, _, _, _, _⟩) (v := ?_) hro rfl (by kernel_rfl) (by kernel_rfl) (by kernel_rfl) ?_ ?_ ?_; rotate_left 1; (focus (intro _ _ _ h; exact h)); (focus (refine ⟨Or.inl ⟨by rfl, fun w => ?_⟩, fun w => by rfl⟩; go_simp <;> try (with_reducible rfl))); try simp only [Act.put, List.setIfInBounds_toArray, List.set_cons_zero, List.set_cons_succ])
                refine wpAnyIn_done (by kernel_rfl) ?_ _
                gi_wp2
                refine bodyPost_ret (results_none rfl _ _ _) rfl ?_
                exact ⟨⟨_, rfl⟩, .inr ⟨_, ⟨k + 1, by omega, by rw [vals_snoc, hpre, List.range_succ]⟩, hJx3⟩⟩
          · go_simp
            refine hK _ _ ?_
            clear hK K
            refine wpAnyIn_ready (rs := [5]) (by kernel_rfl) (by simp) ?_
            refine AllReadyIn.cons rfl (fun K hK => ?_) AllReadyIn.nil
            · go_simp
              refine hK _ _ ?_
              clear hK K
              (refine wpAnyIn_take (i := 10) (oi := ⟨some 20, _, _, _, _, _⟩) (v := ?_) hro rfl (by kernel_rfl) (by kernel_rfl) (by kernel_rfl) ?_ ?_ ?_; rotate_left 1; (focus (intro _ _ _ h; exact h)); (focus (refine ⟨Or.inl ⟨by rfl, fun w => ?_⟩, fun w => by rfl⟩; go_simp <;> try (with_reducible rfl))); try simp only [Act.put, List.setIfInBounds_toArray, List.set_cons_zero, List.set_cons_succ])
              refine wpAnyIn_ready (rs := [11]) (by kernel_rfl) (by simp) ?_
              refine AllReadyIn.cons rfl (fun K hK => ?_) AllReadyIn.nil
              go_simp
              refine hR.mono ?_
              rintro e W3 (⟨rfl, hJ3, hk3⟩ | ⟨rfl, hJx3⟩)
              · refine hK _ _ ?_
                clear hK K
                (refine wpAnyIn_take (i := 12) (oi := ⟨some 22, _, _, _, _, _⟩) (v := ?_) hro rfl (by kernel_rfl) (by kernel_rfl) (by kernel_rfl) ?_ ?_ ?_; rotate_left 1; (focus (intro _ _ _ h; exact h)); (focus (refine ⟨Or.inl ⟨by rfl, fun w => ?_⟩, fun w => by rfl⟩; go_simp <;> try (with_reducible rfl))); try simp only [Act.put, List.setIfInBounds_toArray, List.set_cons_zero, List.set_cons_succ])
                refine wpAnyIn_done (by kernel_rfl) ?_ _
                gi_wp2
                go_roundw
                case rel => exact ⟨k + 1, pre ++ [⟨k, hlt⟩], by omega, by simp, by rw [vals_snoc, hpre, List.range_succ], hJ3, hnx.trans hk3.undrew⟩
                case measure => simp [intOf]; omega
              · refine hK _ _ ?_
                clear hK K
                (refine wpAnyIn_take (i := 12) (oi := ⟨some 22, _, _, _, _, _⟩) (v := ?_) hro rfl (by kernel_rfl) (by kernel_rfl) (by kernel_rfl) ?_ ?_ ?_; rotate_left 1; (focus (intro _ _ _ h; exact h)); (focus (refine ⟨Or.inl ⟨by rfl, fun w => ?_⟩, fun w => by rfl⟩; go_simp <;> try (with_reducible rfl))); try simp only [Act.put, List.setIfInBounds_toArray, List.set_cons_zero, List.set_cons_succ])
                refine wpAnyIn_done (by kernel_rfl) ?_ _
                gi_wp2
                refine bodyPost_ret (results_none rfl _ _ _) rfl ?_
                exact ⟨⟨_, rfl⟩, .inr ⟨_, ⟨k + 1, by omega, by rw [vals_snoc, hpre, List.range_succ]⟩, hJx3⟩⟩
      · go_simp
        refine hK _ _ ?_
        clear hK K
        (refine wpAnyIn_take (i := 8) (oi := ⟨some 18, _, _, _, _, _⟩) (v := ?_) hro rfl (by kernel_rfl) (by kernel_rfl) (by kernel_rfl) ?_ ?_ ?_; rotate_left 1; (focus (intro _ _ _ h; exact h)); (focus (refine ⟨Or.inl ⟨by rfl, fun w => ?_⟩, fun w => by rfl⟩; go_simp <;> try (with_reducible rfl))); try simp only [Act.put, List.setIfInBounds_toArray, List.set_cons_zero, List.set_cons_succ])
        refine wpAnyIn_ready (rs := [2, 9]) (by kernel_rfl) (by simp) ?_
        refine AllReadyIn.cons rfl (fun K hK => ?_) (AllReadyIn.cons rfl (fun K hK => ?_) AllReadyIn.nil)
        · go_simp
          refine hK _ _ ?_
          clear hK K
          (refine wpAnyIn_take (i := 4) (oi := ⟨some 14, _, _, _, _, _⟩) (v := ?_) hro rfl (by kernel_rfl) (by kernel_rfl) (by kernel_rfl) ?_ ?_ ?_; rotate_left 1; (focus (intro _ _ _ h; exact h)); (focus (refine ⟨Or.inl ⟨by rfl, fun w => ?_⟩, fun w => by rfl⟩; go_simp <;> try (with_reducible rfl))); try simp only [Act.put, List.setIfInBounds_toArray, List.set_cons_zero, List.set_cons_succ])
          refine wpAnyIn_ready (rs := [5, 9]) (by kernel_rfl) (by simp) ?_
          refine AllReadyIn.cons rfl (fun K hK => ?_) (AllReadyIn.cons rfl (fun K hK => ?_) AllReadyIn.nil)
          · go_simp
            refine hK _ _ ?_
            clear hK K
            refine wpAnyIn_ready (rs := [9]) (by kernel_rfl) (by simp) ?_
            refine AllReadyIn.cons rfl (fun K hK => ?_) AllReadyIn.nil
            · go_simp
              refine hK _ _ ?_
              clear hK K
              (refine wpAnyIn_take (i := 10) (oi := ⟨some 20, _, _, _, _, _⟩) (v := ?_) hro rfl (by kernel_rfl) (by kernel_rfl) (by kernel_rfl) ?_ ?_ ?_; rotate_left 1; (focus (intro _ _ _ h; exact h)); (focus (refine ⟨Or.inl ⟨by rfl, fun w => ?_⟩, fun w => by rfl⟩; go_simp <;> try (with_reducible rfl))); try simp only [Act.put, List.setIfInBounds_toArray, List.set_cons_zero, List.set_cons_succ])
              refine wpAnyIn_ready (rs := [11]) (by kernel_rfl) (by simp) ?_
              refine AllReadyIn.cons rfl (fun K hK => ?_) AllReadyIn.nil
              go_simp
              refine hR.mono ?_
              rintro e W3 (⟨rfl, hJ3, hk3⟩ | ⟨rfl, hJx3⟩)
              · refine hK _ _ ?_
                clear hK K
                (refine wpAnyIn_take (i := 12) (oi := ⟨some 22, _, _, _, _, _⟩) (v := ?_) hro rfl (by kernel_rfl) (by kernel_rfl) (by kernel_rfl) ?_ ?_ ?_; rotate_left 1; (focus (intro _ _ _ h; exact h)); (focus (refine ⟨Or.inl ⟨by rfl, fun w => ?_⟩, fun w => by rfl⟩; go_simp <;> try (with_reducible rfl))); try simp only [Act.put, List.setIfInBounds_toArray, List.set_cons_zero, List.set_cons_succ])
                refine wpAnyIn_done (by kernel_rfl) ?_ _
                gi_wp2
                go_roundw
                case rel => exact ⟨k + 1, pre ++ [⟨k, hlt⟩], by omega, by simp, by rw [vals_snoc, hpre, List.range_succ], hJ3, hnx.trans hk3.undrew⟩
                case measure => simp [intOf]; omega
              · refine hK _ _ ?_
                clear hK K
                (refine wpAnyIn_take (i := 12) (oi := ⟨some 22, _, _, _, _, _⟩) (v := ?_) hro rfl (by kernel_rfl) (by kernel_rfl) (by kernel_rfl) ?_ ?_ ?_; rotate_left 1; (focus (intro _ _ _ h; exact h)); (focus (refine ⟨Or.inl ⟨by rfl, fun w => ?_⟩, fun w => by rfl⟩; go_simp <;> try (with_reducible rfl))); try simp only [Act.put, List.setIfInBounds_toArray, List.set_cons_zero, List.set_cons_succ])
                refine wpAnyIn_done (by kernel_rfl) ?_ _
                gi_wp2
                refine bodyPost_ret (results_none rfl _ _ _) rfl ?_
                exact ⟨⟨_, rfl⟩, .inr ⟨_, ⟨k + 1, by omega, by rw [vals_snoc, hpre, List.range_succ]⟩, hJx3⟩⟩
          · go_simp
            refine hK _ _ ?_
            clear hK K
            refine wpAnyIn_ready (rs := [5]) (by kernel_rfl) (by simp) ?_
            refine AllReadyIn.cons rfl (fun K hK => ?_) AllReadyIn.nil
            · go_simp
              refine hK _ _ ?_
              clear hK K
              (refine wpAnyIn_take (i := 10) (oi := ⟨some 20, _, _, _, _, _⟩) (v := ?_) hro rfl (by kernel_rfl) (by kernel_rfl) (by kernel_rfl) ?_ ?_ ?_; rotate_left 1; (focus (intro _ _ _ h; exact h)); (focus (refine ⟨Or.inl ⟨by rfl, fun w => ?_⟩, fun w => by rfl⟩; go_simp <;> try (with_reducible rfl))); try simp only [Act.put, List.setIfInBounds_toArray, List.set_cons_zero, List.set_cons_succ])
              refine wpAnyIn_ready (rs := [11]) (by kernel_rfl) (by simp) ?_
              refine AllReadyIn.cons rfl (fun K hK => ?_) AllReadyIn.nil
              go_simp
              refine hR.mono ?_
              rintro e W3 (⟨rfl, hJ3, hk3⟩ | ⟨rfl, hJx3⟩)
              · refine hK _ _ ?_
                clear hK K
                (refine wpAnyIn_take (i := 12) (oi := ⟨some 22, _, _, _, _, _⟩) (v := ?_) hro rfl (by kernel_rfl) (by kernel_rfl) (by kernel_rfl) ?_ ?_ ?_; rotate_left 1; (focus (intro _ _ _ h; exact h)); (focus (refine ⟨Or.inl ⟨by rfl, fun w => ?_⟩, fun w => by rfl⟩; go_simp <;> try (with_reducible rfl))); try simp only [Act.put, List.setIfInBounds_toArray, List.set_cons_zero, List.set_cons_succ])
                refine wpAnyIn_done (by kernel_rfl) ?_ _
                gi_wp2
                go_roundw
                case rel => exact ⟨k + 1, pre ++ [⟨k, hlt⟩], by omega, by simp, by rw [vals_snoc, hpre, List.range_succ], hJ3, hnx.trans hk3.undrew⟩
                case measure => simp [intOf]; omega
              · refine hK _ _ ?_
                clear hK K
                (refine wpAnyIn_take (i := 12) (oi := ⟨some 22, _, _, _, _, _⟩) (v := ?_) hro rfl (by kernel_rfl) (by kernel_rfl) (by kernel_rfl) ?_ ?_ ?_; rotate_left 1; (focus (intro _ _ _ h; exact h)); (focus (refine ⟨Or.inl ⟨by rfl, fun w => ?_⟩, fun w => by rfl⟩; go_simp <;> try (with_reducible rfl))); try simp only [Act.put, List.setIfInBounds_toArray, List.set_cons_zero, List.set_cons_succ])
                refine wpAnyIn_done (by kernel_rfl) ?_ _
                gi_wp2
                refine bodyPost_ret (results_none rfl _ _ _) rfl ?_
                exact ⟨⟨_, rfl⟩, .inr ⟨_, ⟨k + 1, by omega, by rw [vals_snoc, hpre, List.range_succ]⟩, hJx3⟩⟩
        · go_simp
          refine hK _ _ ?_
          clear hK K
          refine wpAnyIn_ready (rs := [2]) (by kernel_rfl) (by simp) ?_
          refine AllReadyIn.cons rfl (fun K hK => ?_) AllReadyIn.nil
          · go_simp
            refine hK _ _ ?_
            clear hK K
            (refine wpAnyIn_take (i := 4) (oi := ⟨some 14, _, _, _, _, _⟩) (v := ?_) hro rfl (by kernel_rfl) (by kernel_rfl) (by kernel_rfl) ?_ ?_ ?_; rotate_left 1; (focus (intro _ _ _ h; exact h)); (focus (refine ⟨Or.inl ⟨by rfl, fun w => ?_⟩, fun w => by rfl⟩; go_simp <;> try (with_reducible rfl))); try simp only [Act.put, List.setIfInBounds_toArray, List.set_cons_zero, List.set_cons_succ])
            refine wpAnyIn_ready (rs := [5]) (by kernel_rfl) (by simp) ?_
            refine AllReadyIn.cons rfl (fun K hK => ?_) AllReadyIn.nil
            · go_simp
              refine hK _ _ ?_
              clear hK K
              (refine wpAnyIn_take (i := 10) (oi := ⟨some 20, _, _, _, _, _⟩) (v := ?_) hro rfl (by kernel_rfl) (by kernel_rfl) (by kernel_rfl) ?_ ?_ ?_; rotate_left 1; (focus (intro _ _ _ h; exact h)); (focus (refine ⟨Or.inl ⟨by rfl, fun w => ?_⟩, fun w => by rfl⟩; go_simp <;> try (with_reducible rfl))); try simp only [Act.put, List.setIfInBounds_toArray, List.set_cons_zero, List.set_cons_succ])
              refine wpAnyIn_ready (rs := [11]) (by kernel_rfl) (by simp) ?_
              refine AllReadyIn.cons rfl (fun K hK => ?_) AllReadyIn.nil
              go_simp
              refine hR.mono ?_
              rintro e W3 (⟨rfl, hJ3, hk3⟩ | ⟨rfl, hJx3⟩)
              · refine hK _ _ ?_
                clear hK K
                (refine wpAnyIn_take (i := 12) (oi := ⟨some 22, _, _, _, _, _⟩) (v := ?_) hro rfl (by kernel_rfl) (by kernel_rfl) (by kernel_rfl) ?_ ?_ ?_; rotate_left 1; (focus (intro _ _ _ h; exact h)); (focus (refine ⟨Or.inl ⟨by rfl, fun w => ?_⟩, fun w => by rfl⟩; go_simp <;> try (with_reducible rfl))); try simp only [Act.put, List.setIfInBounds_toArray, List.set_cons_zero, List.set_cons_succ])
                refine wpAnyIn_done (by kernel_rfl) ?_ _
                gi_wp2
                go_roundw
                case rel => exact ⟨k + 1, pre ++ [⟨k, hlt⟩], by omega, by simp, by rw [vals_snoc, hpre, List.range_succ], hJ3, hnx.trans hk3.undrew⟩
                case measure => simp [intOf]; omega
              · refine hK _ _ ?_
                clear hK K
                (refine wpAnyIn_take (i := 12) (oi := ⟨some 22, _, _, _, _, _⟩) (v := ?_) hro rfl (by kernel_rfl) (by kernel_rfl) (by kernel_rfl) ?_ ?_ ?_; rotate_left 1; (focus (intro _ _ _ h; exact h)); (focus (refine ⟨Or.inl ⟨by rfl, fun w => ?_⟩, fun w => by rfl⟩; go_simp <;> try (with_reducible rfl))); try simp only [Act.put, List.setIfInBounds_toArray, List.set_cons_zero, List.set_cons_succ])
                refine wpAnyIn_done (by kernel_rfl) ?_ _
                gi_wp2
                refine bodyPost_ret (results_none rfl _ _ _) rfl ?_
                exact ⟨⟨_, rfl⟩, .inr ⟨_, ⟨k + 1, by omega, by rw [vals_snoc, hpre, List.range_succ]⟩, hJx3⟩⟩
    · obtain rfl : k = n := by omega
      gi_wp2
      go_end0
      exact ⟨⟨_, rfl⟩, .inl ⟨pre, hpre, hJs⟩⟩

set_option maxHeartbeats 1000000 in
theorem hours_in (F : Fence) (N : Nat) (hf : F.fn 54) (hro : F.round = none) (A A' : Option Addr) (n m cap cap' : Nat) (w : World) :
    CallsIn F N Try.prog 54 #[.slice A n cap, .slice A' m cap'] w fun e w' => e = .returned (.func (.func 74) #[] #[.pointer (some ⟨w.heap.size, 0, none⟩), .pointer (some ⟨w.heap.size + 1, 0, none⟩)]) ∧ w' = (w.alloc (.cells #[.slice A n cap] 37)).alloc (.cells #[.slice A' m cap'] 37) := by
  refine callsIn_of_wp Try.func54 rfl hf ?_ hro
  simp only [Try.ntmps54, List.size_toArray, List.length_cons, List.length_nil, Nat.reduceAdd, Nat.reduceSub, Array.replicate_succ, Array.replicate_zero, List.push_toArray, List.append_toArray, List.nil_append, List.cons_append]
  gi_wp2
  go_ret
  exact ⟨rfl, rfl⟩

theorem hours_stops (F : Fence) (N : Nat) (hf : F.fn 74) (hro : F.round = none) (hN : 1 ≤ N) (B1 B2 lo hi n₀ cap cap' n : Nat) (A A' : Option Addr) (xs ys : List Int) (hn : n ≤ 1000000) (w : World) (h1 : B1 < n₀) (h1' : hi ≤ B1) (h2 : B2 < n₀) (h2' : hi ≤ B2) (hn₀ : n₀ ≤ w.heap.size)
    (hc1 : w.cell? ⟨B1, 0, none⟩ = some (.slice A n cap)) (hc2 : w.cell? ⟨B2, 0, none⟩ = some (.slice A' n cap')) (hlo : lo ≤ n₀) (ha : Rd w lo A n xs) (hb : Rd w lo A' n ys) :
    SeqStopsK F N Try.prog 74 #[.pointer (some ⟨B1, 0, none⟩), .pointer (some ⟨B2, 0, none⟩)] (encH n xs ys) (Mid lo hi n₀) (fun zs => vals zs = List.range n) (fun pre => ∃ k, k ≤ n ∧ vals pre = List.range k) n w := fun l J Jx W hW hJ _ hY h0 =>
  hours1_in F N hf hro hN l B1 B2 lo hi n₀ cap cap' n A A' xs ys hn J Jx (fun pre W1 h => hJ pre W1 W1.drew none h ⟨rfl, rfl, rfl, Nat.le_refl _, fun _ _ _ => rfl⟩ (fun r e => by cases e)) hY W h1 (.inr h1') h2 (.inr h2') ((hW.cell (p := ⟨B1, 0, none⟩) (by show B1 < w.heap.size; omega)).trans hc1) ((hW.cell (p := ⟨B2, 0, none⟩) (by show B2 < w.heap.size; omega)).trans hc2) hlo (ha.below (hW.mono (by omega))) (hb.below (hW.mono (by omega))) h0

end Go.Proofs.Ytcimigaimlojlaa
