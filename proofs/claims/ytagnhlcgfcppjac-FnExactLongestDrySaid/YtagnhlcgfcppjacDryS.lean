/- The model's dry spells. -/
import Derived.Test.YtagnhlcgfcppjacDryP
import Derived.Test.YtagnhlcgfcppjacPairs
namespace Go.Proofs.Ytagnhlcgfcppjac
open Go.RowKit

set_option maxRecDepth 100000 in
set_option maxHeartbeats 3200000 in
theorem l06Dry_t (b o n c : Nat) (xs : List Int) (w : World) (hok : RainOk n xs) (ha : Rd w w.heap.size (some ⟨b, o, none⟩) n xs) :
    Calls Try.prog 75 #[.slice (some ⟨b, o, none⟩) n c] w fun e w' => ∃ A d gs, e = .returned (.slice A (spN xs n n).length d) ∧ Below w.heap.size w w' ∧ w'.ownsRow w.heap.size 22 1 (.slice A (spN xs n n).length d) (spN xs n n).length (gs.map sl2) ∧ Prs w' w.heap.size gs (spN xs n n) := by
  have HA := Lib.hid ha
  have HV := Lib.hid hok
  have h120 := hok.2.2
  obtain ⟨b', o', e, hbB, hc⟩ := ha.2 (by have := hok.2.1; omega)
  injection e with e
  injection e with e1 e2
  subst e1
  subst e2
  have HC := Lib.hid hc
  clear ha hok hc
  go_enter Try.func75, Try.ntmps75
  go_wp2
  go_loopw [3, 4, 5] (fun v i _ wr => ∃ (i' : Nat) (gs : List Nat), i' ≤ n + 1 ∧ i = .int .i64 (i' : Int) ∧ Hid (i' ≤ n → dryN xs i' = 0) ∧ Below w.heap.size w wr ∧ w.heap.size ≤ wr.heap.size ∧ Hid (wr.ownsRow w.heap.size 22 1 v (spN xs n (min i' n)).length (gs.map sl2)) ∧ Hid (Prs wr w.heap.size gs (spN xs n (min i' n)))) (fun _ i _ _ => n + 1 - (intOf i).toNat)
  case atStart => exact ⟨0, [], by omega, rfl, fun _ => rfl, (by repeat (first | assumption | exact Below.refl _ _ | (refine Below.setCell ?_ (by first | omega | (simp; done) | (simp; omega)) _) | apply below_drewN | apply Below.drew | (refine Below.alloc ?_ (by first | omega | (simp; done) | (simp; omega)) _))), by simp, World.ownsRow_made _ _ _ (Nat.le_refl _) (by simp [maxLen]) rfl, ⟨rfl, fun j hj => absurd hj (by simp [spN]), fun i j _ hj => absurd hj (by simp [spN])⟩⟩
  case round =>
    obtain ⟨i', gs, hi', rfl, hdr, hb, hz, HOWN, HPRS⟩ := hrel
    by_cases hlt : i' < n
    · have hmin : min i' n = i' := by omega
      rw [hmin] at HOWN HPRS
      have hd0 := hdr.out (by omega)
      have HD0 := Lib.hid hd0
      have hlen := spN_len xs n i'
      clear hdr hd0
      go_wp2
      go_loop [5] (fun kk => ∃ k : Nat, i' ≤ k ∧ k ≤ n ∧ kk = .int .i64 (k : Int) ∧ Hid (∀ j, i' ≤ j → j < k → ¬ 0 < xs.getD j 0)) (fun kk => n - (intOf kk).toNat)
      case atStart => exact ⟨i', Nat.le_refl _, by omega, rfl, fun j h1 h2 => absurd h2 (by omega)⟩
      case round =>
        obtain ⟨k, hik, hkn, rfl, HZ⟩ := hrel
        by_cases hstop : k < n ∧ ¬ 0 < xs.getD k 0
        · obtain ⟨hk2, hx⟩ := hstop
          have c1 := (hb.cell (p := ⟨b, o + k, none⟩) hbB).trans (HC.out k hk2)
          have hr := HV.out.1 k hk2
          unfold isRn at hr
          have HX := Lib.hid hx
          obtain ⟨x, hxx⟩ : ∃ x, x = xs.getD k 0 := ⟨_, rfl⟩
          rw [← hxx] at c1 hr hx
          have hx0 : (x == 0) = true := by simp; omega
          clear hr hx hxx
          go_wp2
          exact ⟨⟨k + 1, by omega, by omega, by simp, fun j h1 h2 => by
            by_cases e : j = k
            · subst e; exact HX.out
            · exact HZ.out j h1 (by omega)⟩, by simp [intOf]; omega⟩
        · have he : k = n ∨ 0 < xs.getD k 0 := by
            by_cases e : k = n
            · exact .inl e
            · right
              by_cases g : 0 < xs.getD k 0
              · exact g
              · exact absurd ⟨by omega, g⟩ hstop
          have HS := Lib.hid (sp_round HD0.out hik hkn HZ.out he)
          have HN := Lib.hid (show spN xs n (min (k + 1) n) = spN xs n k ∧ (k + 1 ≤ n → dryN xs (k + 1) = 0) by
            rcases he with e | e
            · subst e; exact ⟨by rw [Nat.min_eq_right (by omega)], fun h => by omega⟩
            · by_cases e2 : k = n
              · subst e2; exact ⟨by rw [Nat.min_eq_right (by omega)], fun h => by omega⟩
              · rw [Nat.min_eq_left (by omega)]
                exact ⟨(sp_next (n := n) e).1, fun _ => (sp_next (n := n) e).2⟩)
          have hlen2 : (spN xs n k).length ≤ k := spN_len xs n k
          obtain ⟨L, hL⟩ : ∃ L, L = spN xs n i' := ⟨_, rfl⟩
          rw [← hL] at HS HOWN HPRS hlen
          have K1 := Lib.hid HN.out.2
          have K2 := Lib.hid HN.out.1
          clear hL HN
          by_cases hk2 : k < n
          · have hx : 0 < xs.getD k 0 := by
              rcases he with e | e
              · omega
              · exact e
            have c1 := (hb.cell (p := ⟨b, o + k, none⟩) hbB).trans (HC.out k hk2)
            obtain ⟨x, hxx⟩ : ∃ x, x = xs.getD k 0 := ⟨_, rfl⟩
            rw [← hxx] at c1 hx
            have hx0 : (x == 0) = false := by simp; omega
            clear hx hxx he hstop
            by_cases hki : i' < k
            · have HS2 := Lib.hid (HS.out.trans (if_pos hki))
              have Q1 := Lib.hid (show ((k : Int) - (i' : Int)) = ((k - i' : Nat) : Int) by omega)
              go_wp2_with (at_builtin; rw [Q1.out]; refine wpl_appV rfl (.tmp 28) (.tmp 34) rfl (wr.alloc _) w.heap.size L.length (wr.heap.size + 1) _ _ (sl2 wr.heap.size) (by simp) rfl (by exact HOWN.out.alloc _) rfl rfl (by omega) (by simp; omega) ?_; intro v1 w1 hown1 hg1)
              obtain ⟨P1, D1⟩ := prs_app i' (k - i') HPRS.out HOWN.out hz hg1
              exact ⟨⟨k + 1, gs ++ [wr.heap.size], by omega, by simp, K1, hb.trans D1, Nat.le_trans hz D1.size, by rw [K2.out, HS2.out]; exact Lib.hid (by simpa using hown1), by rw [K2.out, HS2.out]; exact P1⟩, by simp [intOf]; omega⟩
            · have HS2 := Lib.hid (HS.out.trans (if_neg hki))
              obtain rfl : i' = k := by omega
              go_wp2
              exact ⟨⟨i' + 1, gs, by omega, by simp, K1, hb, hz, by rw [K2.out, HS2.out]; exact HOWN, by rw [K2.out, HS2.out]; exact HPRS⟩, by simp [intOf]; omega⟩
          · have hki : i' < k := by omega
            have HS2 := Lib.hid (HS.out.trans (if_pos hki))
            have Q1 := Lib.hid (show ((k : Int) - (i' : Int)) = ((k - i' : Nat) : Int) by omega)
            clear he hstop
            go_wp2_with (at_builtin; rw [Q1.out]; refine wpl_appV rfl (.tmp 28) (.tmp 34) rfl (wr.alloc _) w.heap.size L.length (wr.heap.size + 1) _ _ (sl2 wr.heap.size) (by simp) rfl (by exact HOWN.out.alloc _) rfl rfl (by omega) (by simp; omega) ?_; intro v1 w1 hown1 hg1)
            obtain ⟨P1, D1⟩ := prs_app i' (k - i') HPRS.out HOWN.out hz hg1
            exact ⟨⟨k + 1, gs ++ [wr.heap.size], by omega, by simp, K1, hb.trans D1, Nat.le_trans hz D1.size, by rw [K2.out, HS2.out]; exact Lib.hid (by simpa using hown1), by rw [K2.out, HS2.out]; exact P1⟩, by simp [intOf]; omega⟩
    · have hmin : min i' n = n := by omega
      rw [hmin] at HOWN HPRS
      obtain ⟨A, d, rfl⟩ := own_sl HOWN.out
      go_wp2
      go_ret
      first | exact ⟨A, d, gs, rfl, hb, HOWN.out, HPRS.out⟩ | exact ⟨A, d, rfl, hb, gs, HOWN.out, HPRS.out⟩ | exact ⟨A, d, rfl, hb, ⟨gs, HOWN.out, HPRS.out⟩⟩

end Go.Proofs.Ytagnhlcgfcppjac
