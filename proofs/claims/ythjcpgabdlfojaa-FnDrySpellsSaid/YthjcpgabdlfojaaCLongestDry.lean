/- The longest dry spell. -/
import Derived.Test.YthjcpgabdlfojaaZsL
import Derived.Test.YthjcpgabdlfojaaRainM
import Derived.Test.YthjcpgabdlfojaaDryS
namespace Go.Proofs.Ythjcpgabdlfojaa
open Go.RowKit Go.Shelf

def lgD (n : Nat) (xs : List Int) : Int := lgN (spN xs n n) (spN xs n n).length
def r0_LongestDry (xa0 : List Int) : Int := if RainOk xa0.length xa0 then lgD xa0.length xa0 else 0
def r1_LongestDry (xa0 : List Int) : Int := rcode xa0.length xa0 True

set_option maxHeartbeats 800000 in
theorem longest_impl (b o n c : Nat) (xs : List Int) (w : World) (hn : n ≤ 1048576) (hok : RainOk n xs) (ra : Rd w w.heap.size (some ⟨b, o, none⟩) n xs) :
    Calls Try.prog 13 #[.slice (some ⟨b, o, none⟩) n c] w fun e w' => e = .returned (.tuple #[.int .i64 (lgD n xs), .int .i64 0]) ∧ Below w.heap.size w w' := by
  have HR := Lib.hid (show rcode n xs True = 0 from rcode_ok hok trivial)
  have RA := Lib.hid ra
  have h1 := hok.2.1
  have h120 := hok.2.2
  have HN := Lib.hid (show ∀ j, j < n → 0 ≤ xs.getD j 0 from fun j hj => (hok.1 j hj).1)
  obtain ⟨_, _, e, hbB, _⟩ := ra.2 (by omega)
  injection e with e
  injection e with e1 e2
  subst e1
  subst e2
  obtain ⟨m, hm⟩ : ∃ m, m = lgD n xs := ⟨_, rfl⟩
  rw [← hm]
  have HM := Lib.hid (show lgN (spN xs n n) (spN xs n n).length = m from hm.symm)
  clear hok ra hm
  go_enter Try.func13, Try.ntmps13
  go_wp2_with (first | (go_at_call 18; refine (rainCode_t _ _ _ xs _ True true hn RA.out (by simp)).mono ?_; rintro e1 W1 ⟨rfl, hw1⟩; have d1 : Below w.heap.size w W1 := (by rw [hw1]; exact (by repeat (first | assumption | exact Below.refl _ _ | (refine Below.setCell ?_ (by first | omega | (simp; done) | (simp; omega)) _) | apply below_drewN | apply Below.drew | (refine Below.alloc ?_ (by first | omega | (simp; done) | (simp; omega)) _)))); clear hw1; have s1 := d1.size; have RB := Lib.hid ((RA.out.below d1).mono d1.size); rw [HR.out]) | (go_at_call 22; refine (longestZ_r b o n c xs _ (by omega) HN.out (by omega) RB.out m HM.out).mono ?_; rintro e2 W2 ⟨rfl, b2⟩))
  go_ret2
  exact ⟨rfl, d1.trans (b2.mono d1.size)⟩

set_option maxHeartbeats 800000 in
theorem implC_LongestDry (a0 : Option Addr) (la0 ca0 : Nat) (xa0 : List Int) (w : World) (ha0 : la0 ≤ 1048576) (ra0 : Rd w w.heap.size a0 la0 xa0) (fa0 : Wf xa0) :
    Calls Try.prog 13 #[.slice a0 la0 ca0] w fun e w' => e = .returned (.tuple #[.int .i64 (r0_LongestDry xa0), .int .i64 (r1_LongestDry xa0)]) ∧ Below w.heap.size w w' := by
  have hln := ra0.1
  by_cases h : RainOk la0 xa0
  · have e0 : r0_LongestDry xa0 = lgD la0 xa0 := by unfold r0_LongestDry; rw [hln, if_pos h]
    have e1 : r1_LongestDry xa0 = 0 := by unfold r1_LongestDry; rw [hln]; exact rcode_ok h trivial
    rw [e0, e1]
    obtain ⟨b, o, rfl, _⟩ := ra0.2 (by have := h.2.1; omega)
    exact longest_impl b o la0 ca0 xa0 w ha0 h ra0
  · have e0 : r0_LongestDry xa0 = 0 := by unfold r0_LongestDry; rw [hln, if_neg h]
    have e1 : r1_LongestDry xa0 = 1 := by unfold r1_LongestDry; rw [hln]; exact rcode_bad h
    rw [e0, e1]
    have HR := Lib.hid (show rcode la0 xa0 True = 1 from rcode_bad h)
    have RA := Lib.hid ra0
    clear h e0 e1 ra0
    go_enter Try.func13, Try.ntmps13
    go_wp2_with (first | (go_at_call 18; refine (rainCode_t _ _ _ xa0 _ True true ha0 RA.out (by simp)).mono ?_; rintro e1 W1 ⟨rfl, hw1⟩; have d1 : Below w.heap.size w W1 := (by rw [hw1]; exact (by repeat (first | assumption | exact Below.refl _ _ | (refine Below.setCell ?_ (by first | omega | (simp; done) | (simp; omega)) _) | apply below_drewN | apply Below.drew | (refine Below.alloc ?_ (by first | omega | (simp; done) | (simp; omega)) _)))); clear hw1; rw [HR.out]))
    go_ret2
    exact ⟨rfl, d1⟩
end Go.Proofs.Ythjcpgabdlfojaa
