/- Contracts: whether a net is valid (of the program); the codes of nets. -/
import Derived.Test.YtnjadniidbbhcaaDoorNetV
import Derived.Test.YtnjadniidbbhcaaDoorAlDitch
namespace Go.Proofs.YtnjadniidbbhcaaDoor
open Go.RowKit

set_option maxHeartbeats 1600000 in
theorem impl_vnet (J : Int) (A : Option Addr) (n k : Nat) (xs : List RDitch) (w : World) (hn : n ≤ 1048576) (ha : Rd_Ditch w w.heap.size A n xs) (ok : Bool) (hok : ok = true ↔ NetOk J xs) :
    Calls Tryd.prog 30 #[.agg #[.int .i64 J, .slice A n k]] w fun e w' => e = .returned (.bool ok) ∧ Below w.heap.size w w' := by
  have hln := ha.len
  have HA := Lib.hid ha
  have HK := Lib.hid hok
  have HLN := Lib.hid hln
  clear ha hok hln
  by_cases h1 : 2 ≤ J ∧ J ≤ 10
  · by_cases h20 : n ≤ 20
    · have HK2 := Lib.hid (show ok = true ↔ alDitch J n xs from ⟨fun h j hj => (HK.out.1 h).2.2 j (by rw [HLN.out]; exact hj), fun h => HK.out.2 ⟨h1, by rw [HLN.out]; exact h20, fun j hj => h j (by rw [HLN.out] at hj; exact hj)⟩⟩)
      have hmf : ∀ (fn : Fn) (first cap : Array Value) (w : World), (Instr.makeFunc fn first cap).run Tryd.prog w = .ok (.func fn first cap) w := fun _ _ _ _ => rfl
      obtain ⟨g1, g2⟩ := id h1
      have g3 : (n : Int) ≤ 20 := by omega
      go_enter Tryd.func30, Tryd.ntmps30
      go_wp2_with (first | (go_at_call 52; first | (refine (within_t _ _ _ _ (by omega)).mono ?_; rintro e w' ⟨rfl, rfl⟩) | (refine (within_f _ _ _ _ (by omega)).mono ?_; rintro e w' ⟨rfl, rfl⟩)) | (go_at_call 53; refine (alDitch_all J A n k h1 _ _ _ xs _ hn ((HA.out.below (by repeat (first | assumption | exact Below.refl _ _ | (refine Below.setCell ?_ (by first | omega | (simp; done) | (simp; omega)) _) | apply below_drewN | apply Below.drew | (refine Below.alloc ?_ (by first | omega | (simp; done) | (simp; omega)) _)))).mono (by first | omega | (simp; done) | (simp; omega))) ok HK2.out).mono ?_; rintro e1 w1 ⟨rfl, b1⟩))
      go_ret
      exact ⟨rfl, (by repeat (first | assumption | exact Below.refl _ _ | (refine Below.trans ?_ (b1.mono (by first | omega | (simp; done) | (simp; omega)))) | (refine Below.setCell ?_ (by first | omega | (simp; done) | (simp; omega)) _) | apply below_drewN | apply Below.drew | (refine Below.alloc ?_ (by first | omega | (simp; done) | (simp; omega)) _)))⟩
    · have hbf : ok = false := by
        cases hb : ok
        · rfl
        · exact absurd (by rw [← HLN.out]; exact (HK.out.1 hb).2.1) h20
      have HT := Lib.hid hbf
      clear hbf
      go_enter Tryd.func30, Tryd.ntmps30
      go_wp2_with (first | (go_at_call 52; first | (refine (within_t _ _ _ _ (by omega)).mono ?_; rintro e w' ⟨rfl, rfl⟩) | (refine (within_f _ _ _ _ (by omega)).mono ?_; rintro e w' ⟨rfl, rfl⟩)))
      go_ret
      exact ⟨ret_bool HT.out.symm, (by repeat (first | assumption | exact Below.refl _ _ | (refine Below.setCell ?_ (by first | omega | (simp; done) | (simp; omega)) _) | apply below_drewN | apply Below.drew | (refine Below.alloc ?_ (by first | omega | (simp; done) | (simp; omega)) _)))⟩
  · have hbf : ok = false := by
      cases hb : ok
      · rfl
      · exact absurd (HK.out.1 hb).1 h1
    have HT := Lib.hid hbf
    clear hbf
    go_enter Tryd.func30, Tryd.ntmps30
    go_wp2_with (first | (go_at_call 52; first | (refine (within_t _ _ _ _ (by omega)).mono ?_; rintro e w' ⟨rfl, rfl⟩) | (refine (within_f _ _ _ _ (by omega)).mono ?_; rintro e w' ⟨rfl, rfl⟩)))
    go_ret
    exact ⟨ret_bool HT.out.symm, (by repeat (first | assumption | exact Below.refl _ _ | (refine Below.setCell ?_ (by first | omega | (simp; done) | (simp; omega)) _) | apply below_drewN | apply Below.drew | (refine Below.alloc ?_ (by first | omega | (simp; done) | (simp; omega)) _)))⟩
end Go.Proofs.YtnjadniidbbhcaaDoor
