/- The sums of windows; the heads hold (ka0 : la0 ≤ ca0). -/
import Derived.Test.YthfemghfkfmkdaaDoorWin
import Derived.Test.YthfemghfkfmkdaaDoorWinI
namespace Go.Proofs.YthfemghfkfmkdaaDoor
open Go.RowKit

def rsOk (xa0 : List Int) (a1 : Int) : Prop := (RainOk xa0.length xa0 ∧ rsP a1) ∧ a1 ≤ (xa0.length : Int)
instance (xa0 : List Int) (a1 : Int) : Decidable (rsOk xa0 a1) := by unfold rsOk; exact inferInstance
def r0_RainSums (xa0 : List Int) (a1 : Int) : List Int := if rsOk xa0 a1 then rowOf (winS xa0 a1.toNat) (xa0.length - a1.toNat + 1) else []
def r1_RainSums (xa0 : List Int) (a1 : Int) : Int := if RainOk xa0.length xa0 ∧ rsP a1 then (if a1 ≤ (xa0.length : Int) then 0 else 3) else rcode xa0.length xa0 (rsP a1)
theorem len_r0_RainSums (xa0 : List Int) (a1 : Int) : (r0_RainSums xa0 a1).length ≤ 1048576 := by
  unfold r0_RainSums
  split
  · rename_i h
    have := h.1.1.2.2
    rw [rowOf_len]
    omega
  · simp

theorem upto_map (f : Nat → Int) (m : Nat) (hm : 0 < m) : ∀ k, k ≤ m → (upto (wix m hm) k).map (fun x => f x.1) = rowOf f k := by
  intro k
  induction k with
  | zero => intro _; rfl
  | succ k ih =>
    intro hk
    rw [upto_succ, rowOf_succ, List.map_append, ih (by omega)]
    simp [wix_val m hm k (by omega)]

attribute [local go_sem] Oper.semAt_some
set_option maxRecDepth 100000 in
set_option maxHeartbeats 4000000 in
theorem sums_impl (b o n c d : Nat) (xs : List Int) (w : World) (hn : n ≤ 1048576) (hd : 1 ≤ d) (hdn : d ≤ n) (hnc : n ≤ c) (hok : RainOk n xs) (hp : rsP (d : Int)) (ra : Rd w w.heap.size (some ⟨b, o, none⟩) n xs) :
    Calls Tryd.prog 7 #[.slice (some ⟨b, o, none⟩) n c, .int .i64 (d : Int)] w fun e w' => ∃ B dB, e = .returned (.tuple #[.slice B (n - d + 1) dB, .int .i64 0]) ∧ Below w.heap.size w w' ∧ Wr w' w.heap.size B (n - d + 1) (rowOf (winS xs d) (n - d + 1)) := by
  have HR := Lib.hid (show rcode n xs (rsP (d : Int)) = 0 from rcode_ok hok hp)
  have HP := Lib.hid (show true = decide (rsP (d : Int)) from (decide_eq_true hp).symm)
  have HV := Lib.hid hok
  have RA := Lib.hid ra
  have h120 := hok.2.2
  obtain ⟨p1, p2⟩ := hp
  obtain ⟨_, _, e, hbB, _⟩ := ra.2 (by omega)
  injection e with e
  injection e with e1 e2
  subst e1
  subst e2
  clear hok ra
  obtain ⟨i0, hi, hz0, hz1, hz2⟩ := info_parts info_i64
  refine (callsIn_wide (n := 9)).1 ?_
  refine callsIn_of_wp_marks Tryd.func7 rfl trivial ?_ rfl
  simp only [Tryd.ntmps7, List.size_toArray, List.length_cons, List.length_nil, Nat.reduceAdd, Nat.reduceSub, Array.replicate_succ, Array.replicate_zero, List.push_toArray, List.append_toArray, List.nil_append, List.cons_append]
  gi_wp2_with (first | (refine ⟨trivial, ?_⟩; gi_at_call 15; refine (callsIn_wide.2 (within_t _ _ _ _ (by omega))).mono ?_; rintro e w' ⟨rfl, rfl⟩) | (refine ⟨trivial, ?_⟩; gi_at_call 14; refine (callsIn_wide.2 (rainCode_t _ _ _ xs _ (rsP (d : Int)) true hn RA.out HP.out)).mono ?_; rintro e1 W1 ⟨rfl, hw1⟩; have d1 : Below w.heap.size w W1 := (by rw [hw1]; exact (by repeat (first | assumption | exact Below.refl _ _ | (refine Below.setCell ?_ (by first | omega | (simp; done) | (simp; omega)) _) | apply below_drewN | apply Below.drew | (refine Below.alloc ?_ (by first | omega | (simp; done) | (simp; omega)) _)))); clear hw1; have s1 := d1.size; have hbB := Nat.lt_of_lt_of_le hbB d1.size; have RB := Lib.hid ((RA.out.below d1).mono d1.size); rw [HR.out]) | (refine ⟨trivial, ?_⟩; gi_at_call 16; refine (windows_in Fence.wide _ trivial rfl _ _ _ _ _).mono ?_; rintro e w' ⟨rfl, rfl⟩))
  obtain ⟨W0, hW0⟩ : ∃ W0, W0 = (((W1.alloc (.cells #[.slice none 0 0] 24)).alloc (.cells #[.slice (some ⟨b, o, none⟩) n c] 24)).alloc (.cells #[.int .i64 (d : Int)] 3)) := ⟨_, rfl⟩
  have bO : Boxed W0 W1.heap.size 24 (.slice none 0 0) := by rw [hW0]; exact ((Boxed.new W1 _ _).alloc _).alloc _
  have bL : Boxed W0 (W1.heap.size + 1) 24 (.slice (some ⟨b, o, none⟩) n c) := by
    have h := Boxed.new (W1.alloc (.cells #[.slice none 0 0] 24)) 24 (.slice (some ⟨b, o, none⟩) n c)
    rw [World.size_alloc] at h
    rw [hW0]; exact h.alloc _
  have bD : Boxed W0 (W1.heap.size + 1 + 1) 3 (.int .i64 (d : Int)) := by
    have h := Boxed.new ((W1.alloc (.cells #[.slice none 0 0] 24)).alloc (.cells #[.slice (some ⟨b, o, none⟩) n c] 24)) 3 (.int .i64 (d : Int))
    simp only [World.size_alloc] at h
    rw [hW0]; exact h
  have hB0 : Below W1.heap.size W1 W0 := by rw [hW0]; exact (((Below.refl _ W1).alloc (Nat.le_refl _) _).alloc (by simp) _).alloc (by simp; omega) _
  have hz : W0.heap.size = W1.heap.size + 3 := by rw [hW0]; simp
  rw [← hW0]
  clear hW0
  have HWB := Lib.hid (fun (x : WIx (n - d + 1)) => win_bd HV.out (show x.1 + d ≤ n by have := x.2; omega))
  refine wpIn_rangeFunc_ownG rfl (by omega) (gf := 28) (lb := #[.pointer (some ⟨W1.heap.size + 1 + 1, 0, none⟩), .pointer (some ⟨W1.heap.size + 1, 0, none⟩)]) rfl trivial (enters_of Tryd.func28 (by kernel_rfl) rfl)
    (windows_stops Fence.wide 8 trivial rfl (by omega) (W1.heap.size + 1 + 1) (W1.heap.size + 1) W1.heap.size (W1.heap.size + 3) b o n c d hd hdn hnc h120 W0 (by omega) (by omega) (by omega) (by omega) (by omega) bD.cell bL.cell) But.trans (butK_b (by omega)) (Below.refl _ _) (fun _ => rfl)
    (fun pre W => (∃ v, Boxed W W1.heap.size 24 v ∧ W.ownsRow (W1.heap.size + 3) 2 1 v pre.length ((pre.map fun x => winS xs d x.1).map (Value.int .i64)) ∧ True) ∧ Below W1.heap.size W1 W ∧ W1.heap.size + 3 ≤ W.heap.size)
    (fun _ _ _ => False)
    (OwnFrom.and (Own.from (holdsRow_own (W1.heap.size + 3) W1.heap.size 24 2 1 (fun pre : List (WIx (n - d + 1)) => pre.length) (fun pre : List (WIx (n - d + 1)) => (pre.map fun x => winS xs d x.1).map (Value.int .i64)) (fun _ _ => True)) _) (OwnFrom.and (ownFrom_below (Nat.le_refl _) (by omega)) (fun _ _ _ _ hs hg _ => Nat.le_trans hs hg.size)))
    (fun _ _ _ _ _ hs _ _ => hs)
    ⟨⟨_, bO, World.ownsRow_nil _ _ _ _, trivial⟩, hB0, by omega⟩
    (fun x => { tmps := #[.slice (some ⟨b, o, none⟩) n c, .int .i64 (d : Int), undef, undef, .slice none 0 0, .int .i64 0, .int .i64 0, .pointer (some ⟨W1.heap.size, 0, none⟩), .slice (some ⟨b, o + x.1, none⟩) d (c - x.1), .slice (some ⟨b, o, none⟩) n c, .int .i64 (d : Int), .bool true, .int .i64 0, .int .i64 0, .bool false, undef, .int .i64 (d : Int), .slice (some ⟨b, o, none⟩) n c, .int .i64 (n : Int), .bool false, .slice (some ⟨b, o, none⟩) n c, .int .i64 (d : Int), .func (.func 28) #[] #[.pointer (some ⟨W1.heap.size + 1 + 1, 0, none⟩), .pointer (some ⟨W1.heap.size + 1, 0, none⟩)], .slice (some ⟨b, o + x.1, none⟩) d (c - x.1), undef, undef, undef, undef, undef, undef], defers := [] }) ?assign ?body ?done ?stop
  case assign =>
    intro l x W K hK
    gi_wp2
    exact hK
  case body =>
    rintro l pre x W ⟨⟨v, hv, hrow, _⟩, hB, h3⟩ hlt
    have hc := hv.cell
    have hlt' : W1.heap.size < W.heap.size := by omega
    have hmx : Tryd.prog.follows .mixedOrders = true := by kernel_rfl
    have HX := Lib.hid (((RB.out.below hB).mono hB.size).win (show x.1 + d ≤ n by have := x.2; omega))
    gi_wp2
    refine wpIn_region_any hmx ?_
    change wpAnyIn _ _ _ _ _ _ _ _ _ (World.drew _)
    refine wpAnyIn_ready (rs := [0, 1]) (by kernel_rfl) (by simp) ?_
    refine AllReadyIn.cons rfl (fun K hK => ?_) (AllReadyIn.cons rfl (fun K hK => ?_) AllReadyIn.nil)
    · go_simp
      refine hK _ _ ?_
      clear hK K
      refine wpAnyIn_ready (rs := [1]) (by kernel_rfl) (by simp) ?_
      refine AllReadyIn.cons rfl (fun K hK => ?_) AllReadyIn.nil
      go_simp
      refine hK _ _ ?_
      clear hK K
      refine wpAnyIn_ready (rs := [2]) (by kernel_rfl) (by simp) ?_
      refine AllReadyIn.cons rfl (fun K hK => ?_) AllReadyIn.nil
      go_simp
      refine ⟨trivial, ?_⟩
      refine (CallsIn.inRound l (callsIn_wide.2 (impl_sumB (some ⟨b, o + x.1, none⟩) d (c - x.1) (winL xs d x.1) W.drew (by omega) HX.out (HWB.out x)))).mono ?_
      rintro e w' ⟨rfl, rfl⟩
      refine hK _ _ ?_
      clear hK K
      refine wpAnyIn_ready (rs := [3]) (by kernel_rfl) (by simp) ?_
      refine AllReadyIn.cons rfl (fun K hK => ?_) AllReadyIn.nil
      go_simp
      refine hK _ _ ?_
      clear hK K
      refine wpAnyIn_ready (rs := [4]) (by kernel_rfl) (by simp) ?_
      refine AllReadyIn.cons rfl (fun K hK => ?_) AllReadyIn.nil
      rw [if_pos (by rfl)]
      refine oper_app1 (.tmp 24) (.tmp 27) rfl _ (W1.heap.size + 3) pre.length v _ (sumN (winL xs d x.1) d) W.heap.size 0 rfl (by exact hrow.alloc _) rfl (by first | (simp; done) | go_simp) (by omega) (by show W1.heap.size + 3 ≤ (W.alloc _).heap.size; simp; omega) ?_
      intro v' w1 hown' hgrow
      have hgrow' : (W.alloc (.cells #[.int .i64 (sumN (winL xs d x.1) d)] 2)).grownBy w1 v.ownBlock := ⟨hgrow.os, hgrow.tape, hgrow.output, hgrow.size, hgrow.block⟩
      obtain ⟨g', cap', rfl⟩ := ownsRow_succ hown'
      obtain ⟨hv1, hv2, hr2, hk2, hb2⟩ := box_app hv (by omega) hrow h3 hown' hgrow'
      have hc1 := hv1.cell
      have hf1 := hv1.frozen
      refine hK _ _ ?_
      clear hK K
      refine wpAnyIn_ready (rs := [5]) (by kernel_rfl) (by simp) ?_
      refine AllReadyIn.cons rfl (fun K hK => ?_) AllReadyIn.nil
      go_simp
      refine hK _ _ ?_
      clear hK K
      refine wpAnyIn_done (by kernel_rfl) ?_ _
      exact ⟨hk2.from _, hb2, ⟨_, hv2, by simp only [List.map_append, List.map_cons, List.map_nil, List.length_append, List.length_cons, List.length_nil]; exact hr2, trivial⟩, hB.trans (hb2.below (Nat.le_refl _) (by omega)), Nat.le_trans h3 hb2.size⟩
    · go_simp
      refine hK _ _ ?_
      clear hK K
      refine wpAnyIn_ready (rs := [0, 2]) (by kernel_rfl) (by simp) ?_
      refine AllReadyIn.cons rfl (fun K hK => ?_) (AllReadyIn.cons rfl (fun K hK => ?_) AllReadyIn.nil)
      · go_simp
        refine hK _ _ ?_
        clear hK K
        refine wpAnyIn_ready (rs := [2]) (by kernel_rfl) (by simp) ?_
        refine AllReadyIn.cons rfl (fun K hK => ?_) AllReadyIn.nil
        go_simp
        refine ⟨trivial, ?_⟩
        refine (CallsIn.inRound l (callsIn_wide.2 (impl_sumB (some ⟨b, o + x.1, none⟩) d (c - x.1) (winL xs d x.1) W.drew (by omega) HX.out (HWB.out x)))).mono ?_
        rintro e w' ⟨rfl, rfl⟩
        refine hK _ _ ?_
        clear hK K
        refine wpAnyIn_ready (rs := [3]) (by kernel_rfl) (by simp) ?_
        refine AllReadyIn.cons rfl (fun K hK => ?_) AllReadyIn.nil
        go_simp
        refine hK _ _ ?_
        clear hK K
        refine wpAnyIn_ready (rs := [4]) (by kernel_rfl) (by simp) ?_
        refine AllReadyIn.cons rfl (fun K hK => ?_) AllReadyIn.nil
        rw [if_pos (by rfl)]
        refine oper_app1 (.tmp 24) (.tmp 27) rfl _ (W1.heap.size + 3) pre.length v _ (sumN (winL xs d x.1) d) W.heap.size 0 rfl (by exact hrow.alloc _) rfl (by first | (simp; done) | go_simp) (by omega) (by show W1.heap.size + 3 ≤ (W.alloc _).heap.size; simp; omega) ?_
        intro v' w1 hown' hgrow
        have hgrow' : (W.alloc (.cells #[.int .i64 (sumN (winL xs d x.1) d)] 2)).grownBy w1 v.ownBlock := ⟨hgrow.os, hgrow.tape, hgrow.output, hgrow.size, hgrow.block⟩
        obtain ⟨g', cap', rfl⟩ := ownsRow_succ hown'
        obtain ⟨hv1, hv2, hr2, hk2, hb2⟩ := box_app hv (by omega) hrow h3 hown' hgrow'
        have hc1 := hv1.cell
        have hf1 := hv1.frozen
        refine hK _ _ ?_
        clear hK K
        refine wpAnyIn_ready (rs := [5]) (by kernel_rfl) (by simp) ?_
        refine AllReadyIn.cons rfl (fun K hK => ?_) AllReadyIn.nil
        go_simp
        refine hK _ _ ?_
        clear hK K
        refine wpAnyIn_done (by kernel_rfl) ?_ _
        exact ⟨hk2.from _, hb2, ⟨_, hv2, by simp only [List.map_append, List.map_cons, List.map_nil, List.length_append, List.length_cons, List.length_nil]; exact hr2, trivial⟩, hB.trans (hb2.below (Nat.le_refl _) (by omega)), Nat.le_trans h3 hb2.size⟩
      · go_simp
        refine ⟨trivial, ?_⟩
        refine (CallsIn.inRound l (callsIn_wide.2 (impl_sumB (some ⟨b, o + x.1, none⟩) d (c - x.1) (winL xs d x.1) W.drew (by omega) HX.out (HWB.out x)))).mono ?_
        rintro e w' ⟨rfl, rfl⟩
        refine hK _ _ ?_
        clear hK K
        refine wpAnyIn_ready (rs := [0, 3]) (by kernel_rfl) (by simp) ?_
        refine AllReadyIn.cons rfl (fun K hK => ?_) (AllReadyIn.cons rfl (fun K hK => ?_) AllReadyIn.nil)
        · go_simp
          refine hK _ _ ?_
          clear hK K
          refine wpAnyIn_ready (rs := [3]) (by kernel_rfl) (by simp) ?_
          refine AllReadyIn.cons rfl (fun K hK => ?_) AllReadyIn.nil
          go_simp
          refine hK _ _ ?_
          clear hK K
          refine wpAnyIn_ready (rs := [4]) (by kernel_rfl) (by simp) ?_
          refine AllReadyIn.cons rfl (fun K hK => ?_) AllReadyIn.nil
          rw [if_pos (by rfl)]
          refine oper_app1 (.tmp 24) (.tmp 27) rfl _ (W1.heap.size + 3) pre.length v _ (sumN (winL xs d x.1) d) W.heap.size 0 rfl (by exact hrow.alloc _) rfl (by first | (simp; done) | go_simp) (by omega) (by show W1.heap.size + 3 ≤ (W.alloc _).heap.size; simp; omega) ?_
          intro v' w1 hown' hgrow
          have hgrow' : (W.alloc (.cells #[.int .i64 (sumN (winL xs d x.1) d)] 2)).grownBy w1 v.ownBlock := ⟨hgrow.os, hgrow.tape, hgrow.output, hgrow.size, hgrow.block⟩
          obtain ⟨g', cap', rfl⟩ := ownsRow_succ hown'
          obtain ⟨hv1, hv2, hr2, hk2, hb2⟩ := box_app hv (by omega) hrow h3 hown' hgrow'
          have hc1 := hv1.cell
          have hf1 := hv1.frozen
          refine hK _ _ ?_
          clear hK K
          refine wpAnyIn_ready (rs := [5]) (by kernel_rfl) (by simp) ?_
          refine AllReadyIn.cons rfl (fun K hK => ?_) AllReadyIn.nil
          go_simp
          refine hK _ _ ?_
          clear hK K
          refine wpAnyIn_done (by kernel_rfl) ?_ _
          exact ⟨hk2.from _, hb2, ⟨_, hv2, by simp only [List.map_append, List.map_cons, List.map_nil, List.length_append, List.length_cons, List.length_nil]; exact hr2, trivial⟩, hB.trans (hb2.below (Nat.le_refl _) (by omega)), Nat.le_trans h3 hb2.size⟩
        · go_simp
          refine hK _ _ ?_
          clear hK K
          refine wpAnyIn_ready (rs := [0]) (by kernel_rfl) (by simp) ?_
          refine AllReadyIn.cons rfl (fun K hK => ?_) AllReadyIn.nil
          go_simp
          refine hK _ _ ?_
          clear hK K
          refine wpAnyIn_ready (rs := [4]) (by kernel_rfl) (by simp) ?_
          refine AllReadyIn.cons rfl (fun K hK => ?_) AllReadyIn.nil
          rw [if_pos (by rfl)]
          refine oper_app1 (.tmp 24) (.tmp 27) rfl _ (W1.heap.size + 3) pre.length v _ (sumN (winL xs d x.1) d) W.heap.size 0 rfl (by exact hrow.alloc _) rfl (by first | (simp; done) | go_simp) (by omega) (by show W1.heap.size + 3 ≤ (W.alloc _).heap.size; simp; omega) ?_
          intro v' w1 hown' hgrow
          have hgrow' : (W.alloc (.cells #[.int .i64 (sumN (winL xs d x.1) d)] 2)).grownBy w1 v.ownBlock := ⟨hgrow.os, hgrow.tape, hgrow.output, hgrow.size, hgrow.block⟩
          obtain ⟨g', cap', rfl⟩ := ownsRow_succ hown'
          obtain ⟨hv1, hv2, hr2, hk2, hb2⟩ := box_app hv (by omega) hrow h3 hown' hgrow'
          have hc1 := hv1.cell
          have hf1 := hv1.frozen
          refine hK _ _ ?_
          clear hK K
          refine wpAnyIn_ready (rs := [5]) (by kernel_rfl) (by simp) ?_
          refine AllReadyIn.cons rfl (fun K hK => ?_) AllReadyIn.nil
          go_simp
          refine hK _ _ ?_
          clear hK K
          refine wpAnyIn_done (by kernel_rfl) ?_ _
          exact ⟨hk2.from _, hb2, ⟨_, hv2, by simp only [List.map_append, List.map_cons, List.map_nil, List.length_append, List.length_cons, List.length_nil]; exact hr2, trivial⟩, hB.trans (hb2.below (Nat.le_refl _) (by omega)), Nat.le_trans h3 hb2.size⟩
  case done =>
    rintro D ys W hD rfl ⟨⟨v, hv, hrow, _⟩, hB, h3⟩ hK
    have hc := hv.cell
    gi_wp2
    refine ⟨by simp, .inl ⟨_, _, rfl, run_takeDeferred hK, ?_⟩⟩
    have hrow2 := ownsRow_putObj hrow (.deferred none) hK rfl
    rw [upto_map (winS xs d) (n - d + 1) (by omega) (n - d + 1) (Nat.le_refl _), upto_length] at hrow2
    obtain ⟨B, dB, rfl, hw⟩ := own_wr hrow2
    exact ⟨_, results_tmp2 rfl _ _ _, B, dB, rfl, d1.trans ((hB.trans (belowK_b (w := W1) (Nat.le_refl _) W D _ _ (by omega) hK rfl rfl)).mono d1.size), hw.lower (by omega)⟩
  case stop =>
    rintro D c' pre W _ _ h _
    exact h.elim

set_option maxHeartbeats 800000 in
theorem implC_RainSums (a0 : Option Addr) (la0 ca0 : Nat) (xa0 : List Int) (a1 : Int) (w : World) (ha0 : la0 ≤ 1048576) (ra0 : Rd w w.heap.size a0 la0 xa0) (fa0 : Wf xa0) (ha1 : (Lit.int .i64 a1).wf = true) (ka0 : la0 ≤ ca0) :
    Calls Tryd.prog 7 #[.slice a0 la0 ca0, .int .i64 a1] w fun e w' => ∃ B0 dB0, e = .returned (.tuple #[.slice B0 (r0_RainSums xa0 a1).length dB0, .int .i64 (r1_RainSums xa0 a1)]) ∧ Below w.heap.size w w' ∧ Wr w' w.heap.size B0 (r0_RainSums xa0 a1).length (r0_RainSums xa0 a1) := by
  have hln := ra0.1
  by_cases h : RainOk la0 xa0 ∧ rsP a1
  · by_cases h2 : a1 ≤ (la0 : Int)
    · obtain ⟨d, rfl⟩ : ∃ d : Nat, a1 = (d : Int) := ⟨a1.toNat, by have := h.2.1; omega⟩
      have e0 : r0_RainSums xa0 (d : Int) = rowOf (winS xa0 d) (la0 - d + 1) := by unfold r0_RainSums; rw [if_pos ⟨by rw [hln]; exact h, by rw [hln]; exact h2⟩, hln, Int.toNat_natCast]
      have e1 : r1_RainSums xa0 (d : Int) = 0 := by unfold r1_RainSums; rw [hln, if_pos h, if_pos h2]
      rw [e0, e1, rowOf_len]
      have h1d := h.2.1
      obtain ⟨b, o, rfl, _⟩ := ra0.2 (by omega)
      exact sums_impl b o la0 ca0 d xa0 w ha0 (by omega) (by omega) ka0 h.1 h.2 ra0
    · have HR := Lib.hid (show rcode la0 xa0 (rsP a1) = 0 from rcode_ok h.1 h.2)
      have HP := Lib.hid (show true = decide (rsP a1) from (decide_eq_true h.2).symm)
      have e0 : r0_RainSums xa0 a1 = [] := by unfold r0_RainSums; rw [if_neg (fun g => h2 (by rw [← hln]; exact g.2))]
      have e1 : r1_RainSums xa0 a1 = 3 := by unfold r1_RainSums; rw [hln, if_pos h, if_neg h2]
      rw [e0, e1]
      have h3 : (la0 : Int) < a1 := by omega
      obtain ⟨p1, p2⟩ := h.2
      have RA := Lib.hid ra0
      clear h h2 e0 e1 ra0
      go_enter Tryd.func7, Tryd.ntmps7
      go_wp2_with (first | (go_at_call 15; first | (refine (within_t _ _ _ _ (by omega)).mono ?_; rintro e w' ⟨rfl, rfl⟩) | (refine (within_f _ _ _ _ (by omega)).mono ?_; rintro e w' ⟨rfl, rfl⟩)) | (go_at_call 14; refine (rainCode_t _ _ _ xa0 _ (rsP a1) true ha0 RA.out HP.out).mono ?_; rintro e1 W1 ⟨rfl, hw1⟩; have d1 : Below w.heap.size w W1 := (by rw [hw1]; exact (by repeat (first | assumption | exact Below.refl _ _ | (refine Below.setCell ?_ (by first | omega | (simp; done) | (simp; omega)) _) | apply below_drewN | apply Below.drew | (refine Below.alloc ?_ (by first | omega | (simp; done) | (simp; omega)) _)))); clear hw1; have RB := Lib.hid ((RA.out.below d1).mono d1.size); rw [HR.out]))
      go_ret2
      exact ⟨none, 0, rfl, d1, rfl, fun h => absurd h (by simp)⟩
  · have e0 : r0_RainSums xa0 a1 = [] := by unfold r0_RainSums; rw [if_neg (fun g => h (by rw [← hln]; exact g.1))]
    have e1 : r1_RainSums xa0 a1 = rcode la0 xa0 (rsP a1) := by unfold r1_RainSums; rw [hln, if_neg h]
    rw [e0, e1]
    have e2 := rcode_ne h
    have RA := Lib.hid ra0
    clear e0 e1 h ra0
    by_cases hp : 1 ≤ a1 ∧ a1 ≤ 120
    · have HP := Lib.hid (show true = decide (rsP a1) from (decide_eq_true hp).symm)
      generalize hC : rcode la0 xa0 (rsP a1) = C at *
      have HC := Lib.hid hC
      clear hC
      go_enter Tryd.func7, Tryd.ntmps7
      go_wp2_with (first | (go_at_call 15; first | (refine (within_t _ _ _ _ (by omega)).mono ?_; rintro e w' ⟨rfl, rfl⟩) | (refine (within_f _ _ _ _ (by omega)).mono ?_; rintro e w' ⟨rfl, rfl⟩)) | (go_at_call 14; refine (rainCode_t _ _ _ xa0 _ (rsP a1) true ha0 RA.out HP.out).mono ?_; rintro e1 W1 ⟨rfl, hw1⟩; have d1 : Below w.heap.size w W1 := (by rw [hw1]; exact (by repeat (first | assumption | exact Below.refl _ _ | (refine Below.setCell ?_ (by first | omega | (simp; done) | (simp; omega)) _) | apply below_drewN | apply Below.drew | (refine Below.alloc ?_ (by first | omega | (simp; done) | (simp; omega)) _)))); clear hw1; have RB := Lib.hid ((RA.out.below d1).mono d1.size); rw [HC.out]))
      go_ret2
      exact ⟨none, 0, rfl, d1, rfl, fun h => absurd h (by simp)⟩
    · have HP := Lib.hid (show false = decide (rsP a1) from (decide_eq_false hp).symm)
      generalize hC : rcode la0 xa0 (rsP a1) = C at *
      have HC := Lib.hid hC
      have hp' : a1 < 1 ∨ 120 < a1 := by omega
      clear hC hp
      go_enter Tryd.func7, Tryd.ntmps7
      go_wp2_with (first | (go_at_call 15; first | (refine (within_t _ _ _ _ (by omega)).mono ?_; rintro e w' ⟨rfl, rfl⟩) | (refine (within_f _ _ _ _ (by omega)).mono ?_; rintro e w' ⟨rfl, rfl⟩)) | (go_at_call 14; refine (rainCode_t _ _ _ xa0 _ (rsP a1) false ha0 RA.out HP.out).mono ?_; rintro e1 W1 ⟨rfl, hw1⟩; have d1 : Below w.heap.size w W1 := (by rw [hw1]; exact (by repeat (first | assumption | exact Below.refl _ _ | (refine Below.setCell ?_ (by first | omega | (simp; done) | (simp; omega)) _) | apply below_drewN | apply Below.drew | (refine Below.alloc ?_ (by first | omega | (simp; done) | (simp; omega)) _)))); clear hw1; have RB := Lib.hid ((RA.out.below d1).mono d1.size); rw [HC.out]))
      go_ret2
      exact ⟨none, 0, rfl, d1, rfl, fun h => absurd h (by simp)⟩

end Go.Proofs.YthfemghfkfmkdaaDoor
