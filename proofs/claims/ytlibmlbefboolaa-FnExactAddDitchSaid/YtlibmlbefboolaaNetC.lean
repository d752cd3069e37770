/- Contracts: whether a net is valid (of the program); the codes of nets. -/
import Derived.Test.YtlibmlbefboolaaNetV
import Derived.Test.YtlibmlbefboolaaAlDitch
namespace Go.Proofs.Ytlibmlbefboolaa
open Go.RowKit

set_option maxHeartbeats 1600000 in
theorem impl_vnet (J : Int) (A : Option Addr) (n k : Nat) (xs : List RDitch) (w : World) (hn : n ≤ 1048576) (ha : Rd_Ditch w w.heap.size A n xs) (ok : Bool) (hok : ok = true ↔ NetOk J xs) :
    Calls Try.prog 52 #[.agg #[.int .i64 J, .slice A n k]] w fun e w' => e = .returned (.bool ok) ∧ Below w.heap.size w w' := by
  have hln := ha.len
  have HA := Lib.hid ha
  have HK := Lib.hid hok
  have HLN := Lib.hid hln
  clear ha hok hln
  by_cases h1 : 2 ≤ J ∧ J ≤ 10
  · by_cases h20 : n ≤ 20
    · have HK2 := Lib.hid (show ok = true ↔ alDitch J n xs from ⟨fun h j hj => (HK.out.1 h).2.2 j (by rw [HLN.out]; exact hj), fun h => HK.out.2 ⟨h1, by rw [HLN.out]; exact h20, fun j hj => h j (by rw [HLN.out] at hj; exact hj)⟩⟩)
      have hmf : ∀ (fn : Fn) (first cap : Array Value) (w : World), (Instr.makeFunc fn first cap).run Try.prog w = .ok (.func fn first cap) w := fun _ _ _ _ => rfl
      obtain ⟨g1, g2⟩ := id h1
      have g3 : (n : Int) ≤ 20 := by omega
      go_enter Try.func52, Try.ntmps52
      go_wp2_with (first | (go_at_call 38; first | (refine (within_t _ _ _ _ (by omega)).mono ?_; rintro e w' ⟨rfl, rfl⟩) | (refine (within_f _ _ _ _ (by omega)).mono ?_; rintro e w' ⟨rfl, rfl⟩)) | (go_at_call 58; refine (alDitch_all J A n k h1 _ _ _ xs _ hn ((HA.out.below (by repeat (first | assumption | exact Below.refl _ _ | (refine Below.setCell ?_ (by first | omega | (simp; done) | (simp; omega)) _) | apply below_drewN | apply Below.drew | (refine Below.alloc ?_ (by first | omega | (simp; done) | (simp; omega)) _)))).mono (by first | omega | (simp; done) | (simp; omega))) ok HK2.out).mono ?_; rintro e1 w1 ⟨rfl, b1⟩))
      go_ret
      exact ⟨rfl, (by repeat (first | assumption | exact Below.refl _ _ | (refine Below.trans ?_ (b1.mono (by first | omega | (simp; done) | (simp; omega)))) | (refine Below.setCell ?_ (by first | omega | (simp; done) | (simp; omega)) _) | apply below_drewN | apply Below.drew | (refine Below.alloc ?_ (by first | omega | (simp; done) | (simp; omega)) _)))⟩
    · have hbf : ok = false := by
        cases hb : ok
        · rfl
        · exact absurd (by rw [← HLN.out]; exact (HK.out.1 hb).2.1) h20
      have HT := Lib.hid hbf
      clear hbf
      go_enter Try.func52, Try.ntmps52
      go_wp2_with (first | (go_at_call 38; first | (refine (within_t _ _ _ _ (by omega)).mono ?_; rintro e w' ⟨rfl, rfl⟩) | (refine (within_f _ _ _ _ (by omega)).mono ?_; rintro e w' ⟨rfl, rfl⟩)))
      go_ret
      exact ⟨ret_bool HT.out.symm, (by repeat (first | assumption | exact Below.refl _ _ | (refine Below.setCell ?_ (by first | omega | (simp; done) | (simp; omega)) _) | apply below_drewN | apply Below.drew | (refine Below.alloc ?_ (by first | omega | (simp; done) | (simp; omega)) _)))⟩
  · have hbf : ok = false := by
      cases hb : ok
      · rfl
      · exact absurd (HK.out.1 hb).1 h1
    have HT := Lib.hid hbf
    clear hbf
    go_enter Try.func52, Try.ntmps52
    go_wp2_with (first | (go_at_call 38; first | (refine (within_t _ _ _ _ (by omega)).mono ?_; rintro e w' ⟨rfl, rfl⟩) | (refine (within_f _ _ _ _ (by omega)).mono ?_; rintro e w' ⟨rfl, rfl⟩)))
    go_ret
    exact ⟨ret_bool HT.out.symm, (by repeat (first | assumption | exact Below.refl _ _ | (refine Below.setCell ?_ (by first | omega | (simp; done) | (simp; omega)) _) | apply below_drewN | apply Below.drew | (refine Below.alloc ?_ (by first | omega | (simp; done) | (simp; omega)) _)))⟩

theorem codeFor_t (v b : Bool) (w : World) :
    Calls Try.prog 51 #[.bool v, .bool b] w fun e w' => e = .returned (.int .i64 (if v then (if b then 0 else 2) else 1)) ∧ w = w' := by
  cases v <;> cases b
  all_goals
    go_enter Try.func51, Try.ntmps51
    go_wp2
    go_ret
    exact ⟨rfl, rfl⟩

set_option maxHeartbeats 800000 in
theorem netCode_t (J : Int) (A : Option Addr) (n k : Nat) (xs : List RDitch) (b : Bool) (p : Prop) [Decidable p] (w : World) (hn : n ≤ 1048576) (ha : Rd_Ditch w w.heap.size A n xs) (hb : NetOk J xs → b = decide p) :
    Calls Try.prog 30 #[.agg #[.int .i64 J, .slice A n k], .bool b] w fun e w' => e = .returned (.int .i64 (ncode J xs p)) ∧ Below w.heap.size w w' := by
  have HA := Lib.hid ha
  clear ha
  by_cases hv : NetOk J xs
  · have HV := Lib.hid hv
    by_cases hp : p
    · rw [ncode_ok hv hp]
      obtain rfl : b = true := by rw [hb hv]; simp [hp]
      clear hb hv
      go_enter Try.func30, Try.ntmps30
      go_wp2_with (go_at_call 52; refine (impl_vnet J A n k xs _ hn ((HA.out.below (by repeat (first | assumption | exact Below.refl _ _ | (refine Below.setCell ?_ (by first | omega | (simp; done) | (simp; omega)) _) | apply below_drewN | apply Below.drew | (refine Below.alloc ?_ (by first | omega | (simp; done) | (simp; omega)) _)))).mono (by first | omega | (simp; done) | (simp; omega))) true (by simp [HV.out])).mono ?_; rintro e w1 ⟨rfl, b1⟩)
      go_wp2_with (go_at_call 51; refine (codeFor_t true true _).mono ?_; rintro e w2 ⟨rfl, rfl⟩)
      go_ret
      exact ⟨rfl, (by repeat (first | assumption | exact Below.refl _ _ | (refine Below.trans ?_ (b1.mono (by first | omega | (simp; done) | (simp; omega)))) | (refine Below.setCell ?_ (by first | omega | (simp; done) | (simp; omega)) _) | apply below_drewN | apply Below.drew | (refine Below.alloc ?_ (by first | omega | (simp; done) | (simp; omega)) _)))⟩
    · rw [ncode_no hv hp]
      obtain rfl : b = false := by rw [hb hv]; simp [hp]
      clear hb hv
      go_enter Try.func30, Try.ntmps30
      go_wp2_with (go_at_call 52; refine (impl_vnet J A n k xs _ hn ((HA.out.below (by repeat (first | assumption | exact Below.refl _ _ | (refine Below.setCell ?_ (by first | omega | (simp; done) | (simp; omega)) _) | apply below_drewN | apply Below.drew | (refine Below.alloc ?_ (by first | omega | (simp; done) | (simp; omega)) _)))).mono (by first | omega | (simp; done) | (simp; omega))) true (by simp [HV.out])).mono ?_; rintro e w1 ⟨rfl, b1⟩)
      go_wp2_with (go_at_call 51; refine (codeFor_t true false _).mono ?_; rintro e w2 ⟨rfl, rfl⟩)
      go_ret
      exact ⟨rfl, (by repeat (first | assumption | exact Below.refl _ _ | (refine Below.trans ?_ (b1.mono (by first | omega | (simp; done) | (simp; omega)))) | (refine Below.setCell ?_ (by first | omega | (simp; done) | (simp; omega)) _) | apply below_drewN | apply Below.drew | (refine Below.alloc ?_ (by first | omega | (simp; done) | (simp; omega)) _)))⟩
  · rw [ncode_bad hv]
    have HV := Lib.hid hv
    clear hb hv
    go_enter Try.func30, Try.ntmps30
    go_wp2_with (go_at_call 52; refine (impl_vnet J A n k xs _ hn ((HA.out.below (by repeat (first | assumption | exact Below.refl _ _ | (refine Below.setCell ?_ (by first | omega | (simp; done) | (simp; omega)) _) | apply below_drewN | apply Below.drew | (refine Below.alloc ?_ (by first | omega | (simp; done) | (simp; omega)) _)))).mono (by first | omega | (simp; done) | (simp; omega))) false (by simp [HV.out])).mono ?_; rintro e w1 ⟨rfl, b1⟩)
    go_wp2_with (go_at_call 51; refine (codeFor_t false _ _).mono ?_; rintro e w2 ⟨rfl, rfl⟩)
    go_ret
    exact ⟨rfl, (by repeat (first | assumption | exact Below.refl _ _ | (refine Below.trans ?_ (b1.mono (by first | omega | (simp; done) | (simp; omega)))) | (refine Below.setCell ?_ (by first | omega | (simp; done) | (simp; omega)) _) | apply below_drewN | apply Below.drew | (refine Below.alloc ?_ (by first | omega | (simp; done) | (simp; omega)) _)))⟩

set_option maxHeartbeats 800000 in
theorem l04Code_t (b : Nat) (J : Int) (A : Option Addr) (n k : Nat) (xs : List RDitch) (from_ : Int) (w : World) (hb0 : b < w.heap.size) (hn : n ≤ 1048576) (hl : NetAt w b J A n k) (ha : Rd_Ditch w w.heap.size A n xs) :
    Calls Try.prog 44 #[.pointer (some ⟨b, 0, none⟩), .int .i64 from_] w fun e w' => e = .returned (.int .i64 (ncode J xs (start J from_))) ∧ Below w.heap.size w w' := by
  have HA := Lib.hid ha
  have HL := Lib.hid hl
  clear ha hl
  by_cases hv : NetOk J xs
  · have HV := Lib.hid hv
    obtain ⟨⟨g1, g2⟩, _, g3⟩ := hv
    clear g3
    by_cases hp : start J from_
    · rw [ncode_ok HV.out hp]
      obtain ⟨p1, p2⟩ := hp
      go_enter Try.func44, Try.ntmps44
      go_wp2_with (go_at_call 27; refine (l04Ok_any b J A n k xs _ hb0 hn HL.out HA.out true (by simp [HV.out])).mono ?_; rintro e w1 ⟨rfl, b1⟩; obtain ⟨z0, z1⟩ := HL.out.below b1 hb0)
      go_wp2_with (first | (go_at_call 36; first | (refine (in_t _ _ _ _ (by omega)).mono ?_; rintro e w' ⟨rfl, rfl⟩) | (refine (in_f _ _ _ _ (by omega)).mono ?_; rintro e w' ⟨rfl, rfl⟩)))
      go_ret
      exact ⟨rfl, (by repeat (first | assumption | exact Below.refl _ _ | (refine Below.trans ?_ (b1.mono (by first | omega | (simp; done) | (simp; omega)))) | (refine Below.setCell ?_ (by first | omega | (simp; done) | (simp; omega)) _) | apply below_drewN | apply Below.drew | (refine Below.alloc ?_ (by first | omega | (simp; done) | (simp; omega)) _)))⟩
    · rw [ncode_no HV.out hp]
      have hq : from_ < 1 ∨ J - 1 < from_ := by unfold start at hp; omega
      clear hp
      go_enter Try.func44, Try.ntmps44
      go_wp2_with (go_at_call 27; refine (l04Ok_any b J A n k xs _ hb0 hn HL.out HA.out true (by simp [HV.out])).mono ?_; rintro e w1 ⟨rfl, b1⟩; obtain ⟨z0, z1⟩ := HL.out.below b1 hb0)
      go_wp2_with (first | (go_at_call 36; first | (refine (in_t _ _ _ _ (by omega)).mono ?_; rintro e w' ⟨rfl, rfl⟩) | (refine (in_f _ _ _ _ (by omega)).mono ?_; rintro e w' ⟨rfl, rfl⟩)))
      go_ret
      exact ⟨rfl, (by repeat (first | assumption | exact Below.refl _ _ | (refine Below.trans ?_ (b1.mono (by first | omega | (simp; done) | (simp; omega)))) | (refine Below.setCell ?_ (by first | omega | (simp; done) | (simp; omega)) _) | apply below_drewN | apply Below.drew | (refine Below.alloc ?_ (by first | omega | (simp; done) | (simp; omega)) _)))⟩
  · rw [ncode_bad hv]
    have HV := Lib.hid hv
    clear hv
    go_enter Try.func44, Try.ntmps44
    go_wp2_with (go_at_call 27; refine (l04Ok_any b J A n k xs _ hb0 hn HL.out HA.out false (by simp [HV.out])).mono ?_; rintro e w1 ⟨rfl, b1⟩)
    go_wp2
    go_ret
    exact ⟨rfl, (by repeat (first | assumption | exact Below.refl _ _ | (refine Below.trans ?_ (b1.mono (by first | omega | (simp; done) | (simp; omega)))) | (refine Below.setCell ?_ (by first | omega | (simp; done) | (simp; omega)) _) | apply below_drewN | apply Below.drew | (refine Below.alloc ?_ (by first | omega | (simp; done) | (simp; omega)) _)))⟩

set_option maxHeartbeats 800000 in
theorem canStart_t (J j : Int) (A : Option Addr) (n k : Nat) (w : World) :
    Calls Try.prog 46 #[.agg #[.int .i64 J, .slice A n k], .int .i64 j] w fun e w' => ∃ v : Bool, e = .returned (.bool v) ∧ Below w.heap.size w w' ∧ (2 ≤ J ∧ J ≤ 10 → v = decide (start J j)) := by
  by_cases h0 : j = 0
  · have e0 : (j != 0) = false := by simp [h0]
    have H0 := Lib.hid h0
    clear h0
    have hf : (2 ≤ J ∧ J ≤ 10 → false = decide (start J j)) := fun _ => (decide_eq_false (fun h => by have := h.1; have := H0.out; omega)).symm
    have HF := Lib.hid hf
    clear hf
    have post : ∀ w', Below w.heap.size w w' → ∃ v : Bool, Ending.returned (.bool false) = Ending.returned (.bool v) ∧ Below w.heap.size w w' ∧ (2 ≤ J ∧ J ≤ 10 → v = decide (start J j)) := fun w' hb => ⟨false, rfl, hb, HF.out⟩
    have POST := Lib.hid post
    clear post
    go_enter Try.func46, Try.ntmps46
    go_wp2
    go_ret
    exact POST.out _ (by repeat (first | assumption | exact Below.refl _ _ | (refine Below.setCell ?_ (by first | omega | (simp; done) | (simp; omega)) _) | apply below_drewN | apply Below.drew | (refine Below.alloc ?_ (by first | omega | (simp; done) | (simp; omega)) _)))
  · have e0 : (j != 0) = true := by simp [h0]
    have hf : (2 ≤ J ∧ J ≤ 10 → decide (0 ≤ j ∧ j ≤ J - 1) = decide (start J j)) := fun _ => by unfold start; exact decide_eq_decide.2 (by omega)
    have HF := Lib.hid hf
    clear hf h0
    go_enter Try.func46, Try.ntmps46
    go_wp2_with fail
    refine (hasJ_t _ _ _ _ _ _).mono ?_
    rintro e1 W1 ⟨v, rfl, b1, hv⟩
    have post : ∀ w', Below w.heap.size w w' → ∃ v' : Bool, Ending.returned (.bool v) = Ending.returned (.bool v') ∧ Below w.heap.size w w' ∧ (2 ≤ J ∧ J ≤ 10 → v' = decide (start J j)) := fun w' hb => ⟨v, rfl, hb, fun h => (hv h).trans (HF.out h)⟩
    have POST := Lib.hid post
    clear post hv
    go_wp2
    go_ret
    exact POST.out _ (by repeat (first | assumption | exact Below.refl _ _ | (refine Below.trans ?_ (b1.mono (by first | omega | (simp; done) | (simp; omega)))) | (refine Below.setCell ?_ (by first | omega | (simp; done) | (simp; omega)) _) | apply below_drewN | apply Below.drew | (refine Below.alloc ?_ (by first | omega | (simp; done) | (simp; omega)) _)))

end Go.Proofs.Ytlibmlbefboolaa
