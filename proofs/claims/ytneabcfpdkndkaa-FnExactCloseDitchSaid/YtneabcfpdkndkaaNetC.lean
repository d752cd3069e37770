/- Contracts: whether a net is valid (of the program); the codes of nets. -/
import Derived.Test.YtneabcfpdkndkaaNetV
namespace Go.Proofs.Ytneabcfpdkndkaa
open Go.RowKit

set_option maxHeartbeats 1600000 in
theorem impl_vnet (J : Int) (A : Option Addr) (n k : Nat) (xs : List RDitch) (w : World) (hn : n ≤ 1048576) (ha : Rd_Ditch w w.heap.size A n xs) (ok : Bool) (hok : ok = true ↔ NetOk J xs) :
    Calls Try.prog 69 #[.agg #[.int .i64 J, .slice A n k]] w fun e w' => e = .returned (.bool ok) ∧ Below w.heap.size w w' := by
  have hln := ha.len
  have HA := Lib.hid ha
  have HK := Lib.hid hok
  have HLN := Lib.hid hln
  clear ha hok hln
  by_cases h1 : 2 ≤ J ∧ J ≤ 10
  · by_cases h20 : n ≤ 20
    · go_enter Try.func69, Try.ntmps69
      go_wp2_with (first | (go_at_call 39; first | (refine (within_t _ _ _ _ (by omega)).mono ?_; rintro e w' ⟨rfl, rfl⟩) | (refine (within_f _ _ _ _ (by omega)).mono ?_; rintro e w' ⟨rfl, rfl⟩)))
      go_loopw [4, 18] (fun _ i wr => ∃ q : Nat, q ≤ n ∧ i = .int .i64 (q : Int) ∧ wr.cell? ⟨w.heap.size, 0, none⟩ = some (.int .i64 J) ∧ wr.cell? ⟨w.heap.size, 1, none⟩ = some (.slice A n k) ∧ Below w.heap.size w wr ∧ w.heap.size < wr.heap.size ∧ Hid (∀ j, j < q → DOk J (xs.getD j zDitch))) (fun _ i _ => n - (intOf i).toNat)
      case atStart => exact ⟨0, by omega, rfl, by simp, by simp, (by repeat (first | assumption | exact Below.refl _ _ | (refine Below.setCell ?_ (by first | omega | (simp; done) | (simp; omega)) _) | apply below_drewN | apply Below.drew | (refine Below.alloc ?_ (by first | omega | (simp; done) | (simp; omega)) _))), by simp, fun j hj => absurd hj (by omega)⟩
      case round =>
        obtain ⟨q, hq, rfl, d0, d1, hb, hs, hr⟩ := hrel
        have hsz := hb.size
        by_cases hlt : q < n
        · obtain ⟨ab, o, rfl, hB, hc⟩ := (HA.out.below hb).at (by omega)
          have p := hc q hlt
          clear hc
          obtain ⟨x, hx⟩ := getZ xs q
          rw [← hx] at p
          have HX := Lib.hid hx
          clear hx
          obtain ⟨y0, y1, y2⟩ := x
          obtain ⟨p0, p1, p2⟩ := p
          simp only at p0 p1 p2
          by_cases hg : DOk J ⟨y0, y1, y2⟩
          · have HG := Lib.hid hg
            clear hg
            go_wp2_with fail
            refine (canHave_b _ _ _ _ _ _ _ _ h1 true (decide_eq_true HG.out).symm).mono ?_
            rintro e1 W1 ⟨rfl, b1⟩
            have s1 : w.heap.size < W1.heap.size := by have := b1.size; simp at this; omega
            have k1 : Below w.heap.size w W1 := (by repeat (first | assumption | exact Below.refl _ _ | (refine Below.trans ?_ (b1.mono (by first | omega | (simp; done) | (simp; omega)))) | (refine Below.setCell ?_ (by first | omega | (simp; done) | (simp; omega)) _) | apply below_drewN | apply Below.drew | (refine Below.alloc ?_ (by first | omega | (simp; done) | (simp; omega)) _)))
            obtain ⟨c1, f1⟩ := bcell b1
            have z0 : W1.cell? ⟨w.heap.size, 0, none⟩ = some (.int .i64 J) := by rw [c1 _ _ (by first | omega | (simp; done) | (simp; omega)), World.cell?_alloc_lt _ _ _ hs]; exact d0
            have z1 : W1.cell? ⟨w.heap.size, 1, none⟩ = some (.slice (some ⟨ab, o, none⟩) n k) := by rw [c1 _ _ (by first | omega | (simp; done) | (simp; omega)), World.cell?_alloc_lt _ _ _ hs]; exact d1
            clear c1 f1
            go_wp2
            go_roundw
            case rel => exact ⟨q + 1, by omega, by go_num, z0, z1, k1, s1, fun j hj => by
              by_cases e : j = q
              · subst e; rw [← HX.out]; exact HG.out
              · exact hr.out j (by omega)⟩
            case measure => simp [intOf]; omega
          · have HG := Lib.hid hg
            clear hg
            go_wp2_with fail
            refine (canHave_b _ _ _ _ _ _ _ _ h1 false (decide_eq_false HG.out).symm).mono ?_
            rintro e1 W1 ⟨rfl, b1⟩
            have k1 : Below w.heap.size w W1 := (by repeat (first | assumption | exact Below.refl _ _ | (refine Below.trans ?_ (b1.mono (by first | omega | (simp; done) | (simp; omega)))) | (refine Below.setCell ?_ (by first | omega | (simp; done) | (simp; omega)) _) | apply below_drewN | apply Below.drew | (refine Below.alloc ?_ (by first | omega | (simp; done) | (simp; omega)) _)))
            go_wp2
            go_ret
            have hbf : ok = false := by
              cases hb : ok
              · rfl
              · have := (HK.out.1 hb).2.2 q (by rw [HLN.out]; omega)
                rw [← HX.out] at this
                exact absurd this HG.out
            exact ⟨ret_bool hbf.symm, k1⟩
        · obtain rfl : q = n := by omega
          have hbt : ok = true := HK.out.2 ⟨h1, by rw [HLN.out]; exact h20, by rw [HLN.out]; exact hr.out⟩
          have HT := Lib.hid hbt
          clear hbt
          go_wp2
          go_ret
          exact ⟨ret_bool HT.out.symm, hb⟩
    · have hbf : ok = false := by
        cases hb : ok
        · rfl
        · exact absurd (by rw [← HLN.out]; exact (HK.out.1 hb).2.1) h20
      have HT := Lib.hid hbf
      clear hbf
      go_enter Try.func69, Try.ntmps69
      go_wp2_with (first | (go_at_call 39; first | (refine (within_t _ _ _ _ (by omega)).mono ?_; rintro e w' ⟨rfl, rfl⟩) | (refine (within_f _ _ _ _ (by omega)).mono ?_; rintro e w' ⟨rfl, rfl⟩)))
      go_ret
      exact ⟨ret_bool HT.out.symm, (by repeat (first | assumption | exact Below.refl _ _ | (refine Below.setCell ?_ (by first | omega | (simp; done) | (simp; omega)) _) | apply below_drewN | apply Below.drew | (refine Below.alloc ?_ (by first | omega | (simp; done) | (simp; omega)) _)))⟩
  · have hbf : ok = false := by
      cases hb : ok
      · rfl
      · exact absurd (HK.out.1 hb).1 h1
    have HT := Lib.hid hbf
    clear hbf
    go_enter Try.func69, Try.ntmps69
    go_wp2_with (first | (go_at_call 39; first | (refine (within_t _ _ _ _ (by omega)).mono ?_; rintro e w' ⟨rfl, rfl⟩) | (refine (within_f _ _ _ _ (by omega)).mono ?_; rintro e w' ⟨rfl, rfl⟩)))
    go_ret
    exact ⟨ret_bool HT.out.symm, (by repeat (first | assumption | exact Below.refl _ _ | (refine Below.setCell ?_ (by first | omega | (simp; done) | (simp; omega)) _) | apply below_drewN | apply Below.drew | (refine Below.alloc ?_ (by first | omega | (simp; done) | (simp; omega)) _)))⟩

theorem codeFor_t (v b : Bool) (w : World) :
    Calls Try.prog 68 #[.bool v, .bool b] w fun e w' => e = .returned (.int .i64 (if v then (if b then 0 else 2) else 1)) ∧ w = w' := by
  cases v <;> cases b
  all_goals
    go_enter Try.func68, Try.ntmps68
    go_wp2
    go_ret
    exact ⟨rfl, rfl⟩

set_option maxHeartbeats 800000 in
theorem netCode_t (J : Int) (A : Option Addr) (n k : Nat) (xs : List RDitch) (b : Bool) (p : Prop) [Decidable p] (w : World) (hn : n ≤ 1048576) (ha : Rd_Ditch w w.heap.size A n xs) (hb : NetOk J xs → b = decide p) :
    Calls Try.prog 38 #[.agg #[.int .i64 J, .slice A n k], .bool b] w fun e w' => e = .returned (.int .i64 (ncode J xs p)) ∧ Below w.heap.size w w' := by
  have HA := Lib.hid ha
  clear ha
  by_cases hv : NetOk J xs
  · have HV := Lib.hid hv
    by_cases hp : p
    · rw [ncode_ok hv hp]
      obtain rfl : b = true := by rw [hb hv]; simp [hp]
      clear hb hv
      go_enter Try.func38, Try.ntmps38
      go_wp2_with (go_at_call 69; refine (impl_vnet J A n k xs _ hn ((HA.out.below (by repeat (first | assumption | exact Below.refl _ _ | (refine Below.setCell ?_ (by first | omega | (simp; done) | (simp; omega)) _) | apply below_drewN | apply Below.drew | (refine Below.alloc ?_ (by first | omega | (simp; done) | (simp; omega)) _)))).mono (by first | omega | (simp; done) | (simp; omega))) true (by simp [HV.out])).mono ?_; rintro e w1 ⟨rfl, b1⟩)
      go_wp2_with (go_at_call 68; refine (codeFor_t true true _).mono ?_; rintro e w2 ⟨rfl, rfl⟩)
      go_ret
      exact ⟨rfl, (by repeat (first | assumption | exact Below.refl _ _ | (refine Below.trans ?_ (b1.mono (by first | omega | (simp; done) | (simp; omega)))) | (refine Below.setCell ?_ (by first | omega | (simp; done) | (simp; omega)) _) | apply below_drewN | apply Below.drew | (refine Below.alloc ?_ (by first | omega | (simp; done) | (simp; omega)) _)))⟩
    · rw [ncode_no hv hp]
      obtain rfl : b = false := by rw [hb hv]; simp [hp]
      clear hb hv
      go_enter Try.func38, Try.ntmps38
      go_wp2_with (go_at_call 69; refine (impl_vnet J A n k xs _ hn ((HA.out.below (by repeat (first | assumption | exact Below.refl _ _ | (refine Below.setCell ?_ (by first | omega | (simp; done) | (simp; omega)) _) | apply below_drewN | apply Below.drew | (refine Below.alloc ?_ (by first | omega | (simp; done) | (simp; omega)) _)))).mono (by first | omega | (simp; done) | (simp; omega))) true (by simp [HV.out])).mono ?_; rintro e w1 ⟨rfl, b1⟩)
      go_wp2_with (go_at_call 68; refine (codeFor_t true false _).mono ?_; rintro e w2 ⟨rfl, rfl⟩)
      go_ret
      exact ⟨rfl, (by repeat (first | assumption | exact Below.refl _ _ | (refine Below.trans ?_ (b1.mono (by first | omega | (simp; done) | (simp; omega)))) | (refine Below.setCell ?_ (by first | omega | (simp; done) | (simp; omega)) _) | apply below_drewN | apply Below.drew | (refine Below.alloc ?_ (by first | omega | (simp; done) | (simp; omega)) _)))⟩
  · rw [ncode_bad hv]
    have HV := Lib.hid hv
    clear hb hv
    go_enter Try.func38, Try.ntmps38
    go_wp2_with (go_at_call 69; refine (impl_vnet J A n k xs _ hn ((HA.out.below (by repeat (first | assumption | exact Below.refl _ _ | (refine Below.setCell ?_ (by first | omega | (simp; done) | (simp; omega)) _) | apply below_drewN | apply Below.drew | (refine Below.alloc ?_ (by first | omega | (simp; done) | (simp; omega)) _)))).mono (by first | omega | (simp; done) | (simp; omega))) false (by simp [HV.out])).mono ?_; rintro e w1 ⟨rfl, b1⟩)
    go_wp2_with (go_at_call 68; refine (codeFor_t false _ _).mono ?_; rintro e w2 ⟨rfl, rfl⟩)
    go_ret
    exact ⟨rfl, (by repeat (first | assumption | exact Below.refl _ _ | (refine Below.trans ?_ (b1.mono (by first | omega | (simp; done) | (simp; omega)))) | (refine Below.setCell ?_ (by first | omega | (simp; done) | (simp; omega)) _) | apply below_drewN | apply Below.drew | (refine Below.alloc ?_ (by first | omega | (simp; done) | (simp; omega)) _)))⟩

set_option maxHeartbeats 800000 in
theorem l04Code_t (b : Nat) (J : Int) (A : Option Addr) (n k : Nat) (xs : List RDitch) (from_ : Int) (w : World) (hb0 : b < w.heap.size) (hn : n ≤ 1048576) (hl : NetAt w b J A n k) (ha : Rd_Ditch w w.heap.size A n xs) :
    Calls Try.prog 56 #[.pointer (some ⟨b, 0, none⟩), .int .i64 from_] w fun e w' => e = .returned (.int .i64 (ncode J xs (start J from_))) ∧ Below w.heap.size w w' := by
  have HA := Lib.hid ha
  have HL := Lib.hid hl
  clear ha hl
  by_cases hv : NetOk J xs
  · have HV := Lib.hid hv
    obtain ⟨⟨g1, g2⟩, _, g3⟩ := hv
    clear g3
    by_cases hp : start J from_
    · rw [ncode_ok HV.out hp]
      obtain ⟨p1, p2⟩ := hp
      go_enter Try.func56, Try.ntmps56
      go_wp2_with (go_at_call 34; refine (l04Ok_any b J A n k xs _ hb0 hn HL.out HA.out true (by simp [HV.out])).mono ?_; rintro e w1 ⟨rfl, b1⟩; obtain ⟨z0, z1⟩ := HL.out.below b1 hb0)
      go_wp2_with (first | (go_at_call 35; first | (refine (in_t _ _ _ _ (by omega)).mono ?_; rintro e w' ⟨rfl, rfl⟩) | (refine (in_f _ _ _ _ (by omega)).mono ?_; rintro e w' ⟨rfl, rfl⟩)))
      go_ret
      exact ⟨rfl, (by repeat (first | assumption | exact Below.refl _ _ | (refine Below.trans ?_ (b1.mono (by first | omega | (simp; done) | (simp; omega)))) | (refine Below.setCell ?_ (by first | omega | (simp; done) | (simp; omega)) _) | apply below_drewN | apply Below.drew | (refine Below.alloc ?_ (by first | omega | (simp; done) | (simp; omega)) _)))⟩
    · rw [ncode_no HV.out hp]
      have hq : from_ < 1 ∨ J - 1 < from_ := by unfold start at hp; omega
      clear hp
      go_enter Try.func56, Try.ntmps56
      go_wp2_with (go_at_call 34; refine (l04Ok_any b J A n k xs _ hb0 hn HL.out HA.out true (by simp [HV.out])).mono ?_; rintro e w1 ⟨rfl, b1⟩; obtain ⟨z0, z1⟩ := HL.out.below b1 hb0)
      go_wp2_with (first | (go_at_call 35; first | (refine (in_t _ _ _ _ (by omega)).mono ?_; rintro e w' ⟨rfl, rfl⟩) | (refine (in_f _ _ _ _ (by omega)).mono ?_; rintro e w' ⟨rfl, rfl⟩)))
      go_ret
      exact ⟨rfl, (by repeat (first | assumption | exact Below.refl _ _ | (refine Below.trans ?_ (b1.mono (by first | omega | (simp; done) | (simp; omega)))) | (refine Below.setCell ?_ (by first | omega | (simp; done) | (simp; omega)) _) | apply below_drewN | apply Below.drew | (refine Below.alloc ?_ (by first | omega | (simp; done) | (simp; omega)) _)))⟩
  · rw [ncode_bad hv]
    have HV := Lib.hid hv
    clear hv
    go_enter Try.func56, Try.ntmps56
    go_wp2_with (go_at_call 34; refine (l04Ok_any b J A n k xs _ hb0 hn HL.out HA.out false (by simp [HV.out])).mono ?_; rintro e w1 ⟨rfl, b1⟩)
    go_wp2
    go_ret
    exact ⟨rfl, (by repeat (first | assumption | exact Below.refl _ _ | (refine Below.trans ?_ (b1.mono (by first | omega | (simp; done) | (simp; omega)))) | (refine Below.setCell ?_ (by first | omega | (simp; done) | (simp; omega)) _) | apply below_drewN | apply Below.drew | (refine Below.alloc ?_ (by first | omega | (simp; done) | (simp; omega)) _)))⟩

set_option maxHeartbeats 800000 in
theorem canStart_t (J j : Int) (A : Option Addr) (n k : Nat) (w : World) :
    Calls Try.prog 59 #[.agg #[.int .i64 J, .slice A n k], .int .i64 j] w fun e w' => ∃ v : Bool, e = .returned (.bool v) ∧ Below w.heap.size w w' ∧ (2 ≤ J ∧ J ≤ 10 → v = decide (start J j)) := by
  by_cases h0 : j = 0
  · have e0 : (j != 0) = false := by simp [h0]
    have H0 := Lib.hid h0
    clear h0
    have hf : (2 ≤ J ∧ J ≤ 10 → false = decide (start J j)) := fun _ => (decide_eq_false (fun h => by have := h.1; have := H0.out; omega)).symm
    have HF := Lib.hid hf
    clear hf
    have post : ∀ w', Below w.heap.size w w' → ∃ v : Bool, Ending.returned (.bool false) = Ending.returned (.bool v) ∧ Below w.heap.size w w' ∧ (2 ≤ J ∧ J ≤ 10 → v = decide (start J j)) := fun w' hb => ⟨false, rfl, hb, HF.out⟩
    have POST := Lib.hid post
    clear post
    go_enter Try.func59, Try.ntmps59
    go_wp2
    go_ret
    exact POST.out _ (by repeat (first | assumption | exact Below.refl _ _ | (refine Below.setCell ?_ (by first | omega | (simp; done) | (simp; omega)) _) | apply below_drewN | apply Below.drew | (refine Below.alloc ?_ (by first | omega | (simp; done) | (simp; omega)) _)))
  · have e0 : (j != 0) = true := by simp [h0]
    have hf : (2 ≤ J ∧ J ≤ 10 → decide (0 ≤ j ∧ j ≤ J - 1) = decide (start J j)) := fun _ => by unfold start; exact decide_eq_decide.2 (by omega)
    have HF := Lib.hid hf
    clear hf h0
    go_enter Try.func59, Try.ntmps59
    go_wp2_with fail
    refine (hasJ_t _ _ _ _ _ _).mono ?_
    rintro e1 W1 ⟨v, rfl, b1, hv⟩
    have post : ∀ w', Below w.heap.size w w' → ∃ v' : Bool, Ending.returned (.bool v) = Ending.returned (.bool v') ∧ Below w.heap.size w w' ∧ (2 ≤ J ∧ J ≤ 10 → v' = decide (start J j)) := fun w' hb => ⟨v, rfl, hb, fun h => (hv h).trans (HF.out h)⟩
    have POST := Lib.hid post
    clear post hv
    go_wp2
    go_ret
    exact POST.out _ (by repeat (first | assumption | exact Below.refl _ _ | (refine Below.trans ?_ (b1.mono (by first | omega | (simp; done) | (simp; omega)))) | (refine Below.setCell ?_ (by first | omega | (simp; done) | (simp; omega)) _) | apply below_drewN | apply Below.drew | (refine Below.alloc ?_ (by first | omega | (simp; done) | (simp; omega)) _)))

end Go.Proofs.Ytneabcfpdkndkaa
