/- The longest dry spell. -/
import Derived.Test.YtflapbpcghlllabDryI
import Derived.Test.YtflapbpcghlllabRainM
import Derived.Test.YtflapbpcghlllabDryS
namespace Go.Proofs.Ytflapbpcghlllab
open Go.RowKit Go.Shelf

def lgD (n : Nat) (xs : List Int) : Int := lgN (spN xs n n) (spN xs n n).length
def r0_LongestDry (xa0 : List Int) : Int := if RainOk xa0.length xa0 then lgD xa0.length xa0 else 0
def r1_LongestDry (xa0 : List Int) : Int := rcode xa0.length xa0 True

attribute [local go_sem] Oper.semAt_some
set_option maxRecDepth 100000 in
set_option maxHeartbeats 4000000 in
theorem longest_impl (b o n c : Nat) (xs : List Int) (w : World) (hn : n ≤ 1048576) (hok : RainOk n xs) (ra : Rd w w.heap.size (some ⟨b, o, none⟩) n xs) :
    Calls Try.prog 13 #[.slice (some ⟨b, o, none⟩) n c] w fun e w' => e = .returned (.tuple #[.int .i64 (lgD n xs), .int .i64 0]) ∧ Below w.heap.size w w' := by
  have HR := Lib.hid (show rcode n xs True = 0 from rcode_ok hok trivial)
  have RA := Lib.hid ra
  have h1 := hok.2.1
  have h120 := hok.2.2
  obtain ⟨_, _, e, hbB, hc⟩ := ra.2 (by omega)
  injection e with e
  injection e with e1 e2
  subst e1
  subst e2
  have HC := Lib.hid hc
  clear hok ra hc
  refine (callsIn_wide (n := 9)).1 ?_
  refine callsIn_of_wp_marks Try.func13 rfl trivial ?_ rfl
  simp only [Try.ntmps13, List.size_toArray, List.length_cons, List.length_nil, Nat.reduceAdd, Nat.reduceSub, Array.replicate_succ, Array.replicate_zero, List.push_toArray, List.append_toArray, List.nil_append, List.cons_append]
  gi_wp2_with (first | (refine ⟨trivial, ?_⟩; gi_at_call 18; refine (callsIn_wide.2 (rainCode_t _ _ _ xs _ True true hn RA.out (by simp))).mono ?_; rintro e1 w1 ⟨rfl, rfl⟩; rw [HR.out]) | (refine ⟨trivial, ?_⟩; gi_at_call 21; refine (drys_in Fence.wide _ trivial rfl _ _ _ _).mono ?_; rintro e w' ⟨rfl, rfl⟩))
  obtain ⟨W0, hW0⟩ : ∃ W0, W0 = ((w.alloc (.cells #[.int .i64 0] 2)).alloc (.cells #[.slice (some ⟨b, o, none⟩) n c] 24)) := ⟨_, rfl⟩
  have bO : Boxed W0 w.heap.size 2 (.int .i64 0) := by rw [hW0]; exact (Boxed.new w _ _).alloc _
  have bL : Boxed W0 (w.heap.size + 1) 24 (.slice (some ⟨b, o, none⟩) n c) := by
    have h := Boxed.new (w.alloc (.cells #[.int .i64 0] 2)) 24 (.slice (some ⟨b, o, none⟩) n c)
    rw [World.size_alloc] at h
    rw [hW0]; exact h
  have hB0 : Below w.heap.size w W0 := by rw [hW0]; exact ((Below.refl _ w).alloc (Nat.le_refl _) _).alloc (by simp) _
  have hz : W0.heap.size = w.heap.size + 2 := by rw [hW0]; simp
  rw [← hW0]
  clear hW0
  refine wpIn_rangeFunc_ownG rfl (by omega) (gf := 29) (lb := #[.pointer (some ⟨w.heap.size + 1, 0, none⟩)]) rfl trivial (enters_of Try.func29 (by kernel_rfl) rfl)
    (drys_stops Fence.wide 8 trivial rfl (by omega) (w.heap.size + 1) w.heap.size (w.heap.size + 2) b o n c xs h1 h120 W0 (by omega) (by omega) (by omega) (by omega) (by omega) bL.cell (fun j hj => (hB0.cell (p := ⟨b, o + j, none⟩) hbB).trans (HC.out j hj))) But.trans (butK_b (by omega)) (Below.refl _ _) (fun _ => rfl)
    (fun pre W => Boxed W w.heap.size 2 (.int .i64 (lgN pre pre.length)) ∧ Below w.heap.size w W ∧ w.heap.size + 2 ≤ W.heap.size)
    (fun _ _ _ => False)
    (OwnFrom.and (Own.from (boxed_own' w.heap.size 2 (fun pre => .int .i64 (lgN pre pre.length))) _) (OwnFrom.and (ownFrom_below (Nat.le_refl _) (by omega)) (fun _ _ _ _ hs hg _ => Nat.le_trans hs hg.size)))
    (fun _ _ _ _ _ hs _ _ => hs)
    ⟨bO, hB0, by omega⟩
    (fun x => { tmps := #[.slice (some ⟨b, o, none⟩) n c, undef, .int .i64 0, .int .i64 0, .int .i64 0, .pointer (some ⟨w.heap.size, 0, none⟩), undef, .int .i64 (x.2 : Int), .slice (some ⟨b, o, none⟩) n c, .int .i64 0, .int .i64 0, .bool false, undef, .slice (some ⟨b, o, none⟩) n c, .func (.func 29) #[] #[.pointer (some ⟨w.heap.size + 1, 0, none⟩)], .int .i64 (x.1 : Int), .int .i64 (x.2 : Int), undef, undef, undef, undef], defers := [] }) ?assign ?body ?done ?stop
  case assign =>
    intro l x W K hK
    dsimp only [encP]
    gi_wp2
    exact hK
  case body =>
    rintro l pre x W ⟨hv, hB, h3⟩ hlt
    have hc := hv.cell
    have hf := hv.frozen
    have HA := Lib.hid (lgN_app pre x)
    have hsz : (pre ++ [x]).length = pre.length + 1 := by simp
    rw [← hsz] at HA
    generalize lgN pre pre.length = m at *
    by_cases hm : m < (x.2 : Int)
    · gi_wp2
      exact ⟨(KeepsOthers.setCell _ _ _).from _, (But.refl _ _ _).setCell (p := ⟨w.heap.size, 0, none⟩) (.inl rfl) _, by rw [HA.out, show max m (x.2 : Int) = (x.2 : Int) by omega]; exact hv.set _, hB.setCell (p := ⟨w.heap.size, 0, none⟩) (Nat.le_refl _) _, by simpa [World.setCell] using h3⟩
    · gi_wp2
      exact ⟨(KeepsOthers.setCell _ _ _).from _, (But.refl _ _ _).setCell (p := ⟨w.heap.size, 0, none⟩) (.inl rfl) _, by rw [HA.out, show max m (x.2 : Int) = m by omega]; exact hv.set _, hB.setCell (p := ⟨w.heap.size, 0, none⟩) (Nat.le_refl _) _, by simpa [World.setCell] using h3⟩
  case done =>
    rintro D ys W hD rfl ⟨hv, hB, h3⟩ hK
    have hc := hv.cell
    gi_wp2
    refine ⟨by simp, .inl ⟨_, _, rfl, run_takeDeferred hK, ?_⟩⟩
    exact ⟨_, results_tmp2 rfl _ _ _, rfl, hB.trans (belowK_b (w := w) (Nat.le_refl _) W D _ _ (by omega) hK rfl rfl)⟩
  case stop =>
    rintro D c' pre W _ _ h _
    exact h.elim

set_option maxHeartbeats 800000 in
theorem implC_LongestDry (a0 : Option Addr) (la0 ca0 : Nat) (xa0 : List Int) (w : World) (ha0 : la0 ≤ 1048576) (ra0 : Rd w w.heap.size a0 la0 xa0) (fa0 : Wf xa0) :
    Calls Try.prog 13 #[.slice a0 la0 ca0] w fun e w' => e = .returned (.tuple #[.int .i64 (r0_LongestDry xa0), .int .i64 (r1_LongestDry xa0)]) ∧ Below w.heap.size w w' := by
  have hln := ra0.1
  by_cases h : RainOk la0 xa0
  · have e0 : r0_LongestDry xa0 = lgD la0 xa0 := by unfold r0_LongestDry; rw [hln, if_pos h]
    have e1 : r1_LongestDry xa0 = 0 := by unfold r1_LongestDry; rw [hln]; exact rcode_ok h trivial
    rw [e0, e1]
    obtain ⟨b, o, rfl, _⟩ := ra0.2 (by have := h.2.1; omega)
    exact longest_impl b o la0 ca0 xa0 w ha0 h ra0
  · have e0 : r0_LongestDry xa0 = 0 := by unfold r0_LongestDry; rw [hln, if_neg h]
    have e1 : r1_LongestDry xa0 = 1 := by unfold r1_LongestDry; rw [hln]; exact rcode_bad h
    rw [e0, e1]
    have HR := Lib.hid (show rcode la0 xa0 True = 1 from rcode_bad h)
    have RA := Lib.hid ra0
    clear h e0 e1 ra0
    go_enter Try.func13, Try.ntmps13
    go_wp2_with (first | (go_at_call 18; refine (rainCode_t _ _ _ xa0 _ True true ha0 RA.out (by simp)).mono ?_; rintro e1 w1 ⟨rfl, rfl⟩; rw [HR.out]))
    go_ret2
    exact ⟨rfl, Below.refl _ _⟩
end Go.Proofs.Ytflapbpcghlllab
