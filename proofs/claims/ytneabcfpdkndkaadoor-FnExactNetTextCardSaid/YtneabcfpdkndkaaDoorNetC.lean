/- Contracts: whether a net is valid (of the program); the codes of nets. -/
import Derived.Test.YtneabcfpdkndkaaDoorNetV
namespace Go.Proofs.YtneabcfpdkndkaaDoor
open Go.RowKit

set_option maxHeartbeats 1600000 in
theorem impl_vnet (J : Int) (A : Option Addr) (n k : Nat) (xs : List RDitch) (w : World) (hn : n ≤ 1048576) (ha : Rd_Ditch w w.heap.size A n xs) (ok : Bool) (hok : ok = true ↔ NetOk J xs) :
    Calls Tryd.prog 27 #[.agg #[.int .i64 J, .slice A n k]] w fun e w' => e = .returned (.bool ok) ∧ Below w.heap.size w w' := by
  have hln := ha.len
  have HA := Lib.hid ha
  have HK := Lib.hid hok
  have HLN := Lib.hid hln
  clear ha hok hln
  by_cases h1 : 2 ≤ J ∧ J ≤ 10
  · by_cases h20 : n ≤ 20
    · go_enter Tryd.func27, Tryd.ntmps27
      go_wp2_with (first | (go_at_call 34; first | (refine (within_t _ _ _ _ (by omega)).mono ?_; rintro e w' ⟨rfl, rfl⟩) | (refine (within_f _ _ _ _ (by omega)).mono ?_; rintro e w' ⟨rfl, rfl⟩)))
      go_loopw [4, 18] (fun _ i wr => ∃ q : Nat, q ≤ n ∧ i = .int .i64 (q : Int) ∧ wr.cell? ⟨w.heap.size, 0, none⟩ = some (.int .i64 J) ∧ wr.cell? ⟨w.heap.size, 1, none⟩ = some (.slice A n k) ∧ Below w.heap.size w wr ∧ w.heap.size < wr.heap.size ∧ Hid (∀ j, j < q → DOk J (xs.getD j zDitch))) (fun _ i _ => n - (intOf i).toNat)
      case atStart => exact ⟨0, by omega, rfl, by simp, by simp, (by repeat (first | assumption | exact Below.refl _ _ | (refine Below.setCell ?_ (by first | omega | (simp; done) | (simp; omega)) _) | apply below_drewN | apply Below.drew | (refine Below.alloc ?_ (by first | omega | (simp; done) | (simp; omega)) _))), by simp, fun j hj => absurd hj (by omega)⟩
      case round =>
        obtain ⟨q, hq, rfl, d0, d1, hb, hs, hr⟩ := hrel
        have hsz := hb.size
        by_cases hlt : q < n
        · obtain ⟨ab, o, rfl, hB, hc⟩ := (HA.out.below hb).at (by omega)
          have p := hc q hlt
          clear hc
          obtain ⟨x, hx⟩ := getZ xs q
          rw [← hx] at p
          have HX := Lib.hid hx
          clear hx
          obtain ⟨y0, y1, y2⟩ := x
          obtain ⟨p0, p1, p2⟩ := p
          simp only at p0 p1 p2
          by_cases hg : DOk J ⟨y0, y1, y2⟩
          · have HG := Lib.hid hg
            clear hg
            go_wp2_with fail
            refine (canHave_b _ _ _ _ _ _ _ _ h1 true (decide_eq_true HG.out).symm).mono ?_
            rintro e1 W1 ⟨rfl, b1⟩
            have s1 : w.heap.size < W1.heap.size := by have := b1.size; simp at this; omega
            have k1 : Below w.heap.size w W1 := (by repeat (first | assumption | exact Below.refl _ _ | (refine Below.trans ?_ (b1.mono (by first | omega | (simp; done) | (simp; omega)))) | (refine Below.setCell ?_ (by first | omega | (simp; done) | (simp; omega)) _) | apply below_drewN | apply Below.drew | (refine Below.alloc ?_ (by first | omega | (simp; done) | (simp; omega)) _)))
            obtain ⟨c1, f1⟩ := bcell b1
            have z0 : W1.cell? ⟨w.heap.size, 0, none⟩ = some (.int .i64 J) := by rw [c1 _ _ (by first | omega | (simp; done) | (simp; omega)), World.cell?_alloc_lt _ _ _ hs]; exact d0
            have z1 : W1.cell? ⟨w.heap.size, 1, none⟩ = some (.slice (some ⟨ab, o, none⟩) n k) := by rw [c1 _ _ (by first | omega | (simp; done) | (simp; omega)), World.cell?_alloc_lt _ _ _ hs]; exact d1
            clear c1 f1
            go_wp2
            go_roundw
            case rel => exact ⟨q + 1, by omega, by go_num, z0, z1, k1, s1, fun j hj => by
              by_cases e : j = q
              · subst e; rw [← HX.out]; exact HG.out
              · exact hr.out j (by omega)⟩
            case measure => simp [intOf]; omega
          · have HG := Lib.hid hg
            clear hg
            go_wp2_with fail
            refine (canHave_b _ _ _ _ _ _ _ _ h1 false (decide_eq_false HG.out).symm).mono ?_
            rintro e1 W1 ⟨rfl, b1⟩
            have k1 : Below w.heap.size w W1 := (by repeat (first | assumption | exact Below.refl _ _ | (refine Below.trans ?_ (b1.mono (by first | omega | (simp; done) | (simp; omega)))) | (refine Below.setCell ?_ (by first | omega | (simp; done) | (simp; omega)) _) | apply below_drewN | apply Below.drew | (refine Below.alloc ?_ (by first | omega | (simp; done) | (simp; omega)) _)))
            go_wp2
            go_ret
            have hbf : ok = false := by
              cases hb : ok
              · rfl
              · have := (HK.out.1 hb).2.2 q (by rw [HLN.out]; omega)
                rw [← HX.out] at this
                exact absurd this HG.out
            exact ⟨ret_bool hbf.symm, k1⟩
        · obtain rfl : q = n := by omega
          have hbt : ok = true := HK.out.2 ⟨h1, by rw [HLN.out]; exact h20, by rw [HLN.out]; exact hr.out⟩
          have HT := Lib.hid hbt
          clear hbt
          go_wp2
          go_ret
          exact ⟨ret_bool HT.out.symm, hb⟩
    · have hbf : ok = false := by
        cases hb : ok
        · rfl
        · exact absurd (by rw [← HLN.out]; exact (HK.out.1 hb).2.1) h20
      have HT := Lib.hid hbf
      clear hbf
      go_enter Tryd.func27, Tryd.ntmps27
      go_wp2_with (first | (go_at_call 34; first | (refine (within_t _ _ _ _ (by omega)).mono ?_; rintro e w' ⟨rfl, rfl⟩) | (refine (within_f _ _ _ _ (by omega)).mono ?_; rintro e w' ⟨rfl, rfl⟩)))
      go_ret
      exact ⟨ret_bool HT.out.symm, (by repeat (first | assumption | exact Below.refl _ _ | (refine Below.setCell ?_ (by first | omega | (simp; done) | (simp; omega)) _) | apply below_drewN | apply Below.drew | (refine Below.alloc ?_ (by first | omega | (simp; done) | (simp; omega)) _)))⟩
  · have hbf : ok = false := by
      cases hb : ok
      · rfl
      · exact absurd (HK.out.1 hb).1 h1
    have HT := Lib.hid hbf
    clear hbf
    go_enter Tryd.func27, Tryd.ntmps27
    go_wp2_with (first | (go_at_call 34; first | (refine (within_t _ _ _ _ (by omega)).mono ?_; rintro e w' ⟨rfl, rfl⟩) | (refine (within_f _ _ _ _ (by omega)).mono ?_; rintro e w' ⟨rfl, rfl⟩)))
    go_ret
    exact ⟨ret_bool HT.out.symm, (by repeat (first | assumption | exact Below.refl _ _ | (refine Below.setCell ?_ (by first | omega | (simp; done) | (simp; omega)) _) | apply below_drewN | apply Below.drew | (refine Below.alloc ?_ (by first | omega | (simp; done) | (simp; omega)) _)))⟩
end Go.Proofs.YtneabcfpdkndkaaDoor
