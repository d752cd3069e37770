import Derived.Test.YtlibmlbefboolaaFlow
namespace Go.Proofs.Ytlibmlbefboolaa
open Go.RowKit

def r0_IsFlow (a0_0 : Int) (xa0_1 : List RDitch) (a1 : Int) (xa2 : List Int) : Bool := if NetOk a0_0 xa0_1 ∧ start a0_0 a1 ∧ xa2.length = xa0_1.length then decide (leads a0_0 xa0_1 a1 xa2) else false
def r1_IsFlow (a0_0 : Int) (xa0_1 : List RDitch) (a1 : Int) (xa2 : List Int) : Int := ncode a0_0 xa0_1 (start a0_0 a1 ∧ xa2.length = xa0_1.length)

theorem ncode_and {J : Int} {xs : List RDitch} {p q : Prop} [Decidable p] [Decidable q] [Decidable (p ∧ q)] (h : ¬ (NetOk J xs ∧ p)) : ncode J xs (p ∧ q) = ncode J xs p := by
  unfold ncode
  split
  · rw [if_neg (fun hp => h ⟨‹_›, hp⟩), if_neg (fun hp => h ⟨‹_›, hp.1⟩)]
  · rfl
theorem ncode_eq0 {J : Int} {xs : List RDitch} {p : Prop} [Decidable p] (h : ¬ (NetOk J xs ∧ p)) : (ncode J xs p == 0) = false := by
  unfold ncode
  split
  · rw [if_neg (fun hp => h ⟨‹_›, hp⟩)]; rfl
  · rfl
/-- whether water can be led from there, as the program reckons it, whatever the number of junctions is -/
def cs (J j : Int) : Bool := (j != 0) && jB J j
theorem cs_ok {J j : Int} (hJ : 2 ≤ J ∧ J ≤ 10) : cs J j = decide (start J j) := by
  have e : wrap64 (J - 1) = J - 1 := IntWalk.wrap64_in _ (by omega)
  unfold cs jB start
  rw [e, ← Bool.decide_and, show (j != 0) = decide (j ≠ 0) by by_cases h : j = 0 <;> simp [h], ← Bool.decide_and]
  exact decide_eq_decide.2 (by omega)
set_option maxHeartbeats 800000 in
theorem canStart_w (J j : Int) (A : Option Addr) (n k : Nat) (w : World) (v : Bool) (hv : v = cs J j) :
    Calls Try.prog 46 #[.agg #[.int .i64 J, .slice A n k], .int .i64 j] w fun e w' => e = .returned (.bool v) ∧ Below w.heap.size w w' := by
  by_cases h0 : j = 0
  · have e0 : (j != 0) = false := by simp [h0]
    have hf : v = false := by rw [hv, cs, e0]; rfl
    have HF := Lib.hid hf
    clear h0 hv hf
    go_enter Try.func46, Try.ntmps46
    go_wp2
    go_ret
    exact ⟨ret_bool HF.out.symm, (by repeat (first | assumption | exact Below.refl _ _ | (refine Below.setCell ?_ (by first | omega | (simp; done) | (simp; omega)) _) | apply below_drewN | apply Below.drew | (refine Below.alloc ?_ (by first | omega | (simp; done) | (simp; omega)) _)))⟩
  · have e0 : (j != 0) = true := by simp [h0]
    have hf : v = jB J j := by rw [hv, cs, e0]; rfl
    have HF := Lib.hid hf
    clear h0 hv hf
    go_enter Try.func46, Try.ntmps46
    go_wp2_with fail
    refine (hasJ_w _ _ _ _ _ _ v HF.out).mono ?_
    rintro e1 W1 ⟨rfl, b1⟩
    go_wp2
    go_ret
    exact ⟨rfl, (by repeat (first | assumption | exact Below.refl _ _ | (refine Below.trans ?_ (b1.mono (by first | omega | (simp; done) | (simp; omega)))) | (refine Below.setCell ?_ (by first | omega | (simp; done) | (simp; omega)) _) | apply below_drewN | apply Below.drew | (refine Below.alloc ?_ (by first | omega | (simp; done) | (simp; omega)) _)))⟩

set_option maxHeartbeats 1600000 in
theorem specC_IsFlow (a0_0 : Int) (a0_1 : Option Addr) (la0_1 ca0_1 : Nat) (xa0_1 : List RDitch) (a1 : Int) (a2 : Option Addr) (la2 ca2 : Nat) (xa2 : List Int) (w : World) (ha0_0 : (Lit.int .i64 a0_0).wf = true) (ha0_1 : la0_1 ≤ 1048576) (ra0_1 : Rd_Ditch w w.heap.size a0_1 la0_1 xa0_1) (fa0_1 : Wf_Ditch xa0_1) (ha1 : (Lit.int .i64 a1).wf = true) (ha2 : la2 ≤ 1048576) (ra2 : Rd w w.heap.size a2 la2 xa2) (fa2 : Wf xa2) :
    Calls Try.prog 22 #[.agg #[.int .i64 a0_0, .slice a0_1 la0_1 ca0_1], .int .i64 a1, .slice a2 la2 ca2] w fun e w' => e = .returned (.tuple #[.bool (r0_IsFlow a0_0 xa0_1 a1 xa2), .int .i64 (r1_IsFlow a0_0 xa0_1 a1 xa2)]) ∧ Below w.heap.size w w' := by
  have hl0 := ra0_1.len
  have hl2 := ra2.1
  have RA := Lib.hid ra0_1
  have RB := Lib.hid ra2
  clear ra0_1 ra2
  by_cases hv : NetOk a0_0 xa0_1 ∧ start a0_0 a1
  · have HV := Lib.hid hv
    by_cases hm : la2 = la0_1
    · have hc : NetOk a0_0 xa0_1 ∧ start a0_0 a1 ∧ xa2.length = xa0_1.length := ⟨hv.1, hv.2, by rw [hl0, hl2, hm]⟩
      have e0 : r0_IsFlow a0_0 xa0_1 a1 xa2 = decide (leads a0_0 xa0_1 a1 xa2) := if_pos hc
      have e1 : r1_IsFlow a0_0 xa0_1 a1 xa2 = 0 := ncode_ok hc.1 hc.2
      rw [e0, e1]
      have ec : ncode a0_0 xa0_1 (start a0_0 a1) = 0 := ncode_ok hv.1 hv.2
      have EC := Lib.hid ec
      subst hm
      have h0 : ((la2 : Int) != (la2 : Int)) = false := by simp
      clear e0 e1 ec hc hv hl0 hl2
      go_enter Try.func22, Try.ntmps22
      go_wp2_with (go_at_call 44; refine (l04Code_t _ a0_0 a0_1 la2 ca0_1 xa0_1 _ _ (by simp) ha0_1 ⟨by simp, by simp⟩ ((RA.out.below (by repeat (first | assumption | exact Below.refl _ _ | (refine Below.setCell ?_ (by first | omega | (simp; done) | (simp; omega)) _) | apply below_drewN | apply Below.drew | (refine Below.alloc ?_ (by first | omega | (simp; done) | (simp; omega)) _)))).mono (by first | omega | (simp; done) | (simp; omega)))).mono ?_; rintro e w1 ⟨rfl, b1⟩; rw [EC.out]; have s1 : w.heap.size < w1.heap.size := (by have := b1.size; simp at this; omega); obtain ⟨k1, f1⟩ := bcell b1; have z0 : w1.cell? ⟨w.heap.size, 0, none⟩ = some (.int .i64 a0_0) := (by rw [k1 _ _ (by first | omega | (simp; done) | (simp; omega))]; first | (simp; done) | go_simp); have zf0 : w1.frozen? ⟨w.heap.size, 0, none⟩ = false := (by rw [f1 _ _ (by first | omega | (simp; done) | (simp; omega))]; first | (simp; done) | go_simp); have z1 : w1.cell? ⟨w.heap.size, 1, none⟩ = some (.slice a0_1 la2 ca0_1) := (by rw [k1 _ _ (by first | omega | (simp; done) | (simp; omega))]; first | (simp; done) | go_simp); have zf1 : w1.frozen? ⟨w.heap.size, 1, none⟩ = false := (by rw [f1 _ _ (by first | omega | (simp; done) | (simp; omega))]; first | (simp; done) | go_simp); clear k1 f1; have d1 : Below w.heap.size w w1 := (by repeat (first | assumption | exact Below.refl _ _ | (refine Below.trans ?_ (b1.mono (by first | omega | (simp; done) | (simp; omega)))) | (refine Below.setCell ?_ (by first | omega | (simp; done) | (simp; omega)) _) | apply below_drewN | apply Below.drew | (refine Below.alloc ?_ (by first | omega | (simp; done) | (simp; omega)) _))))
      go_wp2_with (go_at_call 45; refine (l04Lead_t _ a0_0 a0_1 la2 ca0_1 xa0_1 _ _ _ xa2 _ s1 ha0_1 ⟨z0, z1⟩ ((RA.out.below d1).mono (by first | omega | (simp; done) | (simp; omega))) ((RB.out.below d1).mono (by first | omega | (simp; done) | (simp; omega))) HV.out.1 HV.out.2).mono ?_; rintro e w2 ⟨s, rfl, hs, b2⟩; clear hs)
      go_ret2
      exact ⟨rfl, (by repeat (first | assumption | exact Below.refl _ _ | (refine Below.trans ?_ (b2.mono (by first | omega | (simp; done) | (simp; omega)))) | (refine Below.trans ?_ (d1.mono (by first | omega | (simp; done) | (simp; omega)))) | (refine Below.setCell ?_ (by first | omega | (simp; done) | (simp; omega)) _) | apply below_drewN | apply Below.drew | (refine Below.alloc ?_ (by first | omega | (simp; done) | (simp; omega)) _)))⟩
    · have hc : ¬ (start a0_0 a1 ∧ xa2.length = xa0_1.length) := fun h => hm (by rw [← hl0, ← hl2, h.2])
      have e0 : r0_IsFlow a0_0 xa0_1 a1 xa2 = false := if_neg (fun h => hc h.2)
      have e1 : r1_IsFlow a0_0 xa0_1 a1 xa2 = 2 := ncode_no hv.1 hc
      rw [e0, e1]
      have ec : ncode a0_0 xa0_1 (start a0_0 a1) = 0 := ncode_ok hv.1 hv.2
      have EC := Lib.hid ec
      have h0 : ((la2 : Int) != (la0_1 : Int)) = true := by simp; omega
      clear e0 e1 ec hc hv hl0 hl2 hm
      go_enter Try.func22, Try.ntmps22
      go_wp2_with (go_at_call 44; refine (l04Code_t _ a0_0 a0_1 la0_1 ca0_1 xa0_1 _ _ (by simp) ha0_1 ⟨by simp, by simp⟩ ((RA.out.below (by repeat (first | assumption | exact Below.refl _ _ | (refine Below.setCell ?_ (by first | omega | (simp; done) | (simp; omega)) _) | apply below_drewN | apply Below.drew | (refine Below.alloc ?_ (by first | omega | (simp; done) | (simp; omega)) _)))).mono (by first | omega | (simp; done) | (simp; omega)))).mono ?_; rintro e w1 ⟨rfl, b1⟩; rw [EC.out]; have s1 : w.heap.size < w1.heap.size := (by have := b1.size; simp at this; omega); obtain ⟨k1, f1⟩ := bcell b1; have z0 : w1.cell? ⟨w.heap.size, 0, none⟩ = some (.int .i64 a0_0) := (by rw [k1 _ _ (by first | omega | (simp; done) | (simp; omega))]; first | (simp; done) | go_simp); have zf0 : w1.frozen? ⟨w.heap.size, 0, none⟩ = false := (by rw [f1 _ _ (by first | omega | (simp; done) | (simp; omega))]; first | (simp; done) | go_simp); have z1 : w1.cell? ⟨w.heap.size, 1, none⟩ = some (.slice a0_1 la0_1 ca0_1) := (by rw [k1 _ _ (by first | omega | (simp; done) | (simp; omega))]; first | (simp; done) | go_simp); have zf1 : w1.frozen? ⟨w.heap.size, 1, none⟩ = false := (by rw [f1 _ _ (by first | omega | (simp; done) | (simp; omega))]; first | (simp; done) | go_simp); clear k1 f1; have d1 : Below w.heap.size w w1 := (by repeat (first | assumption | exact Below.refl _ _ | (refine Below.trans ?_ (b1.mono (by first | omega | (simp; done) | (simp; omega)))) | (refine Below.setCell ?_ (by first | omega | (simp; done) | (simp; omega)) _) | apply below_drewN | apply Below.drew | (refine Below.alloc ?_ (by first | omega | (simp; done) | (simp; omega)) _))))
      go_ret2
      exact ⟨rfl, d1⟩
  · have e0 : r0_IsFlow a0_0 xa0_1 a1 xa2 = false := if_neg (fun h => hv ⟨h.1, h.2.1⟩)
    have e1 : r1_IsFlow a0_0 xa0_1 a1 xa2 = ncode a0_0 xa0_1 (start a0_0 a1) := ncode_and hv
    rw [e0, e1]
    have e2 := ncode_ne hv
    have e3 := ncode_eq0 hv
    clear e0 e1 hv hl0 hl2
    generalize hC : ncode a0_0 xa0_1 (start a0_0 a1) = C at *
    have E := Lib.hid hC
    clear hC
    go_enter Try.func22, Try.ntmps22
    go_wp2_with (go_at_call 44; refine (l04Code_t _ a0_0 a0_1 la0_1 ca0_1 xa0_1 _ _ (by simp) ha0_1 ⟨by simp, by simp⟩ ((RA.out.below (by repeat (first | assumption | exact Below.refl _ _ | (refine Below.setCell ?_ (by first | omega | (simp; done) | (simp; omega)) _) | apply below_drewN | apply Below.drew | (refine Below.alloc ?_ (by first | omega | (simp; done) | (simp; omega)) _)))).mono (by first | omega | (simp; done) | (simp; omega)))).mono ?_; rintro e w1 ⟨rfl, b1⟩; rw [E.out])
    go_ret2
    exact ⟨rfl, (by repeat (first | assumption | exact Below.refl _ _ | (refine Below.trans ?_ (b1.mono (by first | omega | (simp; done) | (simp; omega)))) | (refine Below.setCell ?_ (by first | omega | (simp; done) | (simp; omega)) _) | apply below_drewN | apply Below.drew | (refine Below.alloc ?_ (by first | omega | (simp; done) | (simp; omega)) _)))⟩

set_option maxHeartbeats 3200000 in
theorem implC_IsFlow (a0_0 : Int) (a0_1 : Option Addr) (la0_1 ca0_1 : Nat) (xa0_1 : List RDitch) (a1 : Int) (a2 : Option Addr) (la2 ca2 : Nat) (xa2 : List Int) (w : World) (ha0_0 : (Lit.int .i64 a0_0).wf = true) (ha0_1 : la0_1 ≤ 1048576) (ra0_1 : Rd_Ditch w w.heap.size a0_1 la0_1 xa0_1) (fa0_1 : Wf_Ditch xa0_1) (ha1 : (Lit.int .i64 a1).wf = true) (ha2 : la2 ≤ 1048576) (ra2 : Rd w w.heap.size a2 la2 xa2) (fa2 : Wf xa2) :
    Calls Try.prog 23 #[.agg #[.int .i64 a0_0, .slice a0_1 la0_1 ca0_1], .int .i64 a1, .slice a2 la2 ca2] w fun e w' => e = .returned (.tuple #[.bool (r0_IsFlow a0_0 xa0_1 a1 xa2), .int .i64 (r1_IsFlow a0_0 xa0_1 a1 xa2)]) ∧ Below w.heap.size w w' := by
  have hl0 := ra0_1.len
  have hl2 := ra2.1
  have RA := Lib.hid ra0_1
  have RB := Lib.hid ra2
  clear ra0_1 ra2
  obtain ⟨vs, hvs⟩ : ∃ v, v = cs a0_0 a1 := ⟨_, rfl⟩
  have hps : NetOk a0_0 xa0_1 → vs = decide (start a0_0 a1) := fun h => hvs.trans (cs_ok h.1)
  have VS := Lib.hid hvs
  clear hvs
  cases vs
  · have hpp : NetOk a0_0 xa0_1 → false = decide (start a0_0 a1 ∧ xa2.length = xa0_1.length) := fun h => (decide_eq_false (fun g => of_decide_eq_false (hps h).symm g.1)).symm
    have hc : ¬ (NetOk a0_0 xa0_1 ∧ (start a0_0 a1 ∧ xa2.length = xa0_1.length)) := fun g => of_decide_eq_false (hpp g.1).symm g.2
    have PS := Lib.hid hpp
    have e0 : r0_IsFlow a0_0 xa0_1 a1 xa2 = false := if_neg hc
    have e1 : r1_IsFlow a0_0 xa0_1 a1 xa2 = ncode a0_0 xa0_1 (start a0_0 a1 ∧ xa2.length = xa0_1.length) := rfl
    rw [e0, e1]
    have e2 := ncode_ne hc
    clear e0 e1 hc hps hpp hl0 hl2
    generalize hC : ncode a0_0 xa0_1 (start a0_0 a1 ∧ xa2.length = xa0_1.length) = C at *
    have E := Lib.hid hC
    clear hC
    go_enter Try.func23, Try.ntmps23
    go_wp2_with fail
    refine wp_region_held_drew (S := fun w' => w'.cell? ⟨w.heap.size, 0, none⟩ = some (.int .i64 a0_0) ∧ w'.cell? ⟨w.heap.size, 1, none⟩ = some (.slice a0_1 la0_1 ca0_1)) (by kernel_rfl) ⟨by simp, by simp⟩ (fun hHeld => ?_)
    ((refine wpAnyH_take (i := 0) (v := ?_) rfl (by kernel_rfl) (by kernel_rfl) (by kernel_rfl) (fun _ _ _ h => h) (Or.inl ⟨by rfl, ?_⟩) (by assumption) ?_; rotate_left 1; (focus (intro w hSw; (try dsimp only at hSw); go_simp <;> try (first | (with_reducible rfl) | (rw [if_neg (by omega)])))); try simp only [Act.put, List.setIfInBounds_toArray, List.set_cons_zero, List.set_cons_succ]); (refine wpAnyH_take (i := 1) (v := ?_) rfl (by kernel_rfl) (by kernel_rfl) (by kernel_rfl) (fun _ _ _ h => h) (Or.inl ⟨by rfl, ?_⟩) (by assumption) ?_; rotate_left 1; (focus (intro w hSw; (try dsimp only at hSw); go_simp <;> try (first | (with_reducible rfl) | (rw [if_neg (by omega)])))); try simp only [Act.put, List.setIfInBounds_toArray, List.set_cons_zero, List.set_cons_succ]); (refine wpAnyH_take (i := 2) (v := ?_) rfl (by kernel_rfl) (by kernel_rfl) (by kernel_rfl) (fun _ _ _ h => h) (Or.inl ⟨by rfl, ?_⟩) (by assumption) ?_; rotate_left 1; (focus (intro w hSw; (try dsimp only at hSw); go_simp <;> try (first | (with_reducible rfl) | (rw [if_neg (by omega)])))); try simp only [Act.put, List.setIfInBounds_toArray, List.set_cons_zero, List.set_cons_succ]))
    (refine wpAnyH_ready (rs := [3]) (by kernel_rfl) (by simp) ?_; refine AllReadyH.cons rfl (fun K hK => ?_) AllReadyH.nil; go_simp)
    refine (canStart_w _ _ _ _ _ _ false VS.out).mono ?_
    rintro e1 W1 ⟨rfl, b1⟩
    have s1 : w.heap.size < W1.heap.size := by have := b1.size; simp at this; omega
    have c1 : W1.cell? ⟨w.heap.size, 0, none⟩ = some (.int .i64 a0_0) := (b1.cell (p := ⟨w.heap.size, 0, none⟩) (by simp)).trans hHeld.1
    have c2 : W1.cell? ⟨w.heap.size, 1, none⟩ = some (.slice a0_1 la0_1 ca0_1) := (b1.cell (p := ⟨w.heap.size, 1, none⟩) (by simp)).trans hHeld.2
    clear hHeld
    (refine hK.out _ _ ?_ (fun hHeld => ?_))
    · exact ⟨c1, c2⟩
    ((refine wpAnyH_take (i := 4) (v := ?_) rfl (by kernel_rfl) (by kernel_rfl) (by kernel_rfl) (fun _ _ _ h => h) (Or.inl ⟨by rfl, ?_⟩) (by assumption) ?_; rotate_left 1; (focus (intro w hSw; (try dsimp only at hSw); go_simp <;> try (first | (with_reducible rfl) | (rw [if_neg (by omega)])))); try simp only [Act.put, List.setIfInBounds_toArray, List.set_cons_zero, List.set_cons_succ]); (refine wpAnyH_take (i := 5) (v := undef) rfl (by kernel_rfl) (by kernel_rfl) (by kernel_rfl) (fun _ _ _ h => h) (Or.inr ⟨by rfl, rfl⟩) (by assumption) ?_; try simp only [Act.put, List.setIfInBounds_toArray, List.set_cons_zero, List.set_cons_succ]); (refine wpAnyH_take (i := 6) (v := undef) rfl (by kernel_rfl) (by kernel_rfl) (by kernel_rfl) (fun _ _ _ h => h) (Or.inr ⟨by rfl, rfl⟩) (by assumption) ?_; try simp only [Act.put, List.setIfInBounds_toArray, List.set_cons_zero, List.set_cons_succ]); (refine wpAnyH_take (i := 7) (v := undef) rfl (by kernel_rfl) (by kernel_rfl) (by kernel_rfl) (fun _ _ _ h => h) (Or.inr ⟨by rfl, rfl⟩) (by assumption) ?_; try simp only [Act.put, List.setIfInBounds_toArray, List.set_cons_zero, List.set_cons_succ]); (refine wpAnyH_take (i := 8) (v := undef) rfl (by kernel_rfl) (by kernel_rfl) (by kernel_rfl) (fun _ _ _ h => h) (Or.inr ⟨by rfl, rfl⟩) (by assumption) ?_; try simp only [Act.put, List.setIfInBounds_toArray, List.set_cons_zero, List.set_cons_succ]); (refine wpAnyH_take (i := 9) (v := undef) rfl (by kernel_rfl) (by kernel_rfl) (by kernel_rfl) (fun _ _ _ h => h) (Or.inr ⟨by rfl, rfl⟩) (by assumption) ?_; try simp only [Act.put, List.setIfInBounds_toArray, List.set_cons_zero, List.set_cons_succ]); (refine wpAnyH_take (i := 10) (v := undef) rfl (by kernel_rfl) (by kernel_rfl) (by kernel_rfl) (fun _ _ _ h => h) (Or.inr ⟨by rfl, rfl⟩) (by assumption) ?_; try simp only [Act.put, List.setIfInBounds_toArray, List.set_cons_zero, List.set_cons_succ]); (refine wpAnyH_take (i := 11) (v := ?_) rfl (by kernel_rfl) (by kernel_rfl) (by kernel_rfl) (fun _ _ _ h => h) (Or.inl ⟨by rfl, ?_⟩) (by assumption) ?_; rotate_left 1; (focus (intro w hSw; (try dsimp only at hSw); go_simp <;> try (first | (with_reducible rfl) | (rw [if_neg (by omega)])))); try simp only [Act.put, List.setIfInBounds_toArray, List.set_cons_zero, List.set_cons_succ]))
    (refine wpAnyH_ready (rs := [12]) (by kernel_rfl) (by simp) ?_; refine AllReadyH.cons rfl (fun K hK => ?_) AllReadyH.nil; go_simp)
    refine (netCode_t _ _ _ _ xa0_1 _ (start a0_0 a1 ∧ xa2.length = xa0_1.length) _ ha0_1 ((RA.out.below (by repeat (first | assumption | exact Below.refl _ _ | (refine Below.trans ?_ (b1.mono (by first | omega | (simp; done) | (simp; omega)))) | (refine Below.setCell ?_ (by first | omega | (simp; done) | (simp; omega)) _) | apply below_drewN | apply Below.drew | (refine Below.alloc ?_ (by first | omega | (simp; done) | (simp; omega)) _)))).mono (by first | omega | (simp; done) | (simp; omega))) PS.out).mono ?_
    rintro e3 W2 ⟨rfl, b2⟩
    rw [E.out]
    have d2 : Below w.heap.size w W2 := (by repeat (first | assumption | exact Below.refl _ _ | (refine Below.trans ?_ (b2.mono (by first | omega | (simp; done) | (simp; omega)))) | (refine Below.trans ?_ (b1.mono (by first | omega | (simp; done) | (simp; omega)))) | (refine Below.setCell ?_ (by first | omega | (simp; done) | (simp; omega)) _) | apply below_drewN | apply Below.drew | (refine Below.alloc ?_ (by first | omega | (simp; done) | (simp; omega)) _)))
    have c3 : W2.cell? ⟨w.heap.size, 0, none⟩ = some (.int .i64 a0_0) := (b2.cell (p := ⟨w.heap.size, 0, none⟩) s1).trans hHeld.1
    have c4 : W2.cell? ⟨w.heap.size, 1, none⟩ = some (.slice a0_1 la0_1 ca0_1) := (b2.cell (p := ⟨w.heap.size, 1, none⟩) s1).trans hHeld.2
    clear hHeld
    (refine hK.out _ _ ?_ (fun hHeld => ?_))
    · exact ⟨c3, c4⟩
    ((refine wpAnyH_take (i := 13) (v := ?_) rfl (by kernel_rfl) (by kernel_rfl) (by kernel_rfl) (fun _ _ _ h => h) (Or.inl ⟨by rfl, ?_⟩) (by assumption) ?_; rotate_left 1; (focus (intro w hSw; (try dsimp only at hSw); go_simp <;> try (first | (with_reducible rfl) | (rw [if_neg (by omega)])))); try simp only [Act.put, List.setIfInBounds_toArray, List.set_cons_zero, List.set_cons_succ]))
    refine wpAnyH_done (by kernel_rfl) ?_ _
    go_wp2
    go_ret2
    exact ⟨rfl, d2⟩
  · by_cases hm : la2 = la0_1
    · subst hm
      have h0 : ((la2 : Int) == (la2 : Int)) = true := by simp
      have hpp : NetOk a0_0 xa0_1 → true = decide (start a0_0 a1 ∧ xa2.length = xa0_1.length) := fun h => (hps h).trans (decide_eq_decide.2 ⟨fun g => ⟨g, by rw [hl0, hl2]⟩, fun g => g.1⟩)
      have PS := Lib.hid hpp
      by_cases h : NetOk a0_0 xa0_1
      · have hst : start a0_0 a1 := of_decide_eq_true (hps h).symm
        have hc : NetOk a0_0 xa0_1 ∧ start a0_0 a1 ∧ xa2.length = xa0_1.length := ⟨h, hst, by rw [hl0, hl2]⟩
        have e0 : r0_IsFlow a0_0 xa0_1 a1 xa2 = decide (leads a0_0 xa0_1 a1 xa2) := if_pos hc
        have e1 : r1_IsFlow a0_0 xa0_1 a1 xa2 = 0 := ncode_ok hc.1 hc.2
        rw [e0, e1]
        have ec : ncode a0_0 xa0_1 (start a0_0 a1 ∧ xa2.length = xa0_1.length) = 0 := e1
        have E := Lib.hid ec
        have HV := Lib.hid h
        have HS := Lib.hid hst
        clear e0 e1 ec hc h hst hps hpp hl0 hl2
        go_enter Try.func23, Try.ntmps23
        go_wp2_with fail
        go_region_held3 (fun w' => w'.cell? ⟨w.heap.size, 0, none⟩ = some (.int .i64 a0_0) ∧ w'.cell? ⟨w.heap.size, 1, none⟩ = some (.slice a0_1 la2 ca0_1)) (go_keep) (first | (go_at_call 46; refine (canStart_w _ _ _ _ _ _ true VS.out).mono ?_; rintro e1 W1 ⟨rfl, b1⟩; have s1 : w.heap.size < W1.heap.size := (by have := b1.size; simp at this; omega); obtain ⟨k1, f1⟩ := bcell b1) | (go_at_call 30; refine (netCode_t _ _ _ _ xa0_1 _ (start a0_0 a1 ∧ xa2.length = xa0_1.length) _ ha0_1 ((RA.out.below (by repeat (first | assumption | exact Below.refl _ _ | (refine Below.trans ?_ (b1.mono (by first | omega | (simp; done) | (simp; omega)))) | (refine Below.setCell ?_ (by first | omega | (simp; done) | (simp; omega)) _) | apply below_drewN | apply Below.drew | (refine Below.alloc ?_ (by first | omega | (simp; done) | (simp; omega)) _)))).mono (by first | omega | (simp; done) | (simp; omega))) PS.out).mono ?_; rintro e2 W2 ⟨rfl, b2⟩; rw [E.out]; have s2 : w.heap.size < W2.heap.size := (by have := b2.size; (try simp at this); omega); obtain ⟨k2, f2⟩ := bcell b2; have d2 : Below w.heap.size w W2 := (by repeat (first | assumption | exact Below.refl _ _ | (refine Below.trans ?_ (b2.mono (by first | omega | (simp; done) | (simp; omega)))) | (refine Below.trans ?_ (b1.mono (by first | omega | (simp; done) | (simp; omega)))) | (refine Below.setCell ?_ (by first | omega | (simp; done) | (simp; omega)) _) | apply below_drewN | apply Below.drew | (refine Below.alloc ?_ (by first | omega | (simp; done) | (simp; omega)) _)))))
        go_wp2_with (go_at_call 47; refine (leadsFrom_t _ _ _ _ xa0_1 _ _ xa2 _ _ ha0_1 ((RA.out.below d2).mono (by first | omega | (simp; done) | (simp; omega))) ((RB.out.below d2).mono (by first | omega | (simp; done) | (simp; omega))) HV.out HS.out _ rfl).mono ?_; rintro e3 W3 ⟨rfl, b3⟩)
        go_ret2
        exact ⟨rfl, (by repeat (first | assumption | exact Below.refl _ _ | (refine Below.trans ?_ (b3.mono (by first | omega | (simp; done) | (simp; omega)))) | (refine Below.trans ?_ (d2.mono (by first | omega | (simp; done) | (simp; omega)))) | (refine Below.setCell ?_ (by first | omega | (simp; done) | (simp; omega)) _) | apply below_drewN | apply Below.drew | (refine Below.alloc ?_ (by first | omega | (simp; done) | (simp; omega)) _)))⟩
      · have hc : ¬ (NetOk a0_0 xa0_1 ∧ (start a0_0 a1 ∧ xa2.length = xa0_1.length)) := fun g => h g.1
        have e0 : r0_IsFlow a0_0 xa0_1 a1 xa2 = false := if_neg hc
        have e1 : r1_IsFlow a0_0 xa0_1 a1 xa2 = ncode a0_0 xa0_1 (start a0_0 a1 ∧ xa2.length = xa0_1.length) := rfl
        rw [e0, e1]
        have e2 := ncode_ne hc
        clear e0 e1 h hc hps hpp hl0 hl2
        generalize hC : ncode a0_0 xa0_1 (start a0_0 a1 ∧ xa2.length = xa0_1.length) = C at *
        have E := Lib.hid hC
        clear hC
        go_enter Try.func23, Try.ntmps23
        go_wp2_with fail
        go_region_held3 (fun w' => w'.cell? ⟨w.heap.size, 0, none⟩ = some (.int .i64 a0_0) ∧ w'.cell? ⟨w.heap.size, 1, none⟩ = some (.slice a0_1 la2 ca0_1)) (go_keep) (first | (go_at_call 46; refine (canStart_w _ _ _ _ _ _ true VS.out).mono ?_; rintro e1 W1 ⟨rfl, b1⟩; have s1 : w.heap.size < W1.heap.size := (by have := b1.size; simp at this; omega); obtain ⟨k1, f1⟩ := bcell b1) | (go_at_call 30; refine (netCode_t _ _ _ _ xa0_1 _ (start a0_0 a1 ∧ xa2.length = xa0_1.length) _ ha0_1 ((RA.out.below (by repeat (first | assumption | exact Below.refl _ _ | (refine Below.trans ?_ (b1.mono (by first | omega | (simp; done) | (simp; omega)))) | (refine Below.setCell ?_ (by first | omega | (simp; done) | (simp; omega)) _) | apply below_drewN | apply Below.drew | (refine Below.alloc ?_ (by first | omega | (simp; done) | (simp; omega)) _)))).mono (by first | omega | (simp; done) | (simp; omega))) PS.out).mono ?_; rintro e3 W2 ⟨rfl, b2⟩; rw [E.out]; have s2 : w.heap.size < W2.heap.size := (by have := b2.size; (try simp at this); omega); obtain ⟨k2, f2⟩ := bcell b2; have d2 : Below w.heap.size w W2 := (by repeat (first | assumption | exact Below.refl _ _ | (refine Below.trans ?_ (b2.mono (by first | omega | (simp; done) | (simp; omega)))) | (refine Below.trans ?_ (b1.mono (by first | omega | (simp; done) | (simp; omega)))) | (refine Below.setCell ?_ (by first | omega | (simp; done) | (simp; omega)) _) | apply below_drewN | apply Below.drew | (refine Below.alloc ?_ (by first | omega | (simp; done) | (simp; omega)) _)))))
        go_wp2
        go_ret2
        exact ⟨rfl, d2⟩
    · have h0 : ((la2 : Int) == (la0_1 : Int)) = false := by simp; omega
      have hne : ¬ xa2.length = xa0_1.length := fun h => hm (by rw [← hl0, ← hl2, h])
      have hpp : NetOk a0_0 xa0_1 → false = decide (start a0_0 a1 ∧ xa2.length = xa0_1.length) := fun _ => (decide_eq_false (fun g => hne g.2)).symm
      have PS := Lib.hid hpp
      have hc : ¬ (NetOk a0_0 xa0_1 ∧ (start a0_0 a1 ∧ xa2.length = xa0_1.length)) := fun g => hne g.2.2
      have e0 : r0_IsFlow a0_0 xa0_1 a1 xa2 = false := if_neg hc
      have e1 : r1_IsFlow a0_0 xa0_1 a1 xa2 = ncode a0_0 xa0_1 (start a0_0 a1 ∧ xa2.length = xa0_1.length) := rfl
      rw [e0, e1]
      have e2 := ncode_ne hc
      clear e0 e1 hc hps hpp hl0 hl2 hne hm
      generalize hC : ncode a0_0 xa0_1 (start a0_0 a1 ∧ xa2.length = xa0_1.length) = C at *
      have E := Lib.hid hC
      clear hC
      go_enter Try.func23, Try.ntmps23
      go_wp2_with fail
      go_region_held3 (fun w' => w'.cell? ⟨w.heap.size, 0, none⟩ = some (.int .i64 a0_0) ∧ w'.cell? ⟨w.heap.size, 1, none⟩ = some (.slice a0_1 la0_1 ca0_1)) (go_keep) (first | (go_at_call 46; refine (canStart_w _ _ _ _ _ _ true VS.out).mono ?_; rintro e1 W1 ⟨rfl, b1⟩; have s1 : w.heap.size < W1.heap.size := (by have := b1.size; simp at this; omega); obtain ⟨k1, f1⟩ := bcell b1) | (go_at_call 30; refine (netCode_t _ _ _ _ xa0_1 _ (start a0_0 a1 ∧ xa2.length = xa0_1.length) _ ha0_1 ((RA.out.below (by repeat (first | assumption | exact Below.refl _ _ | (refine Below.trans ?_ (b1.mono (by first | omega | (simp; done) | (simp; omega)))) | (refine Below.setCell ?_ (by first | omega | (simp; done) | (simp; omega)) _) | apply below_drewN | apply Below.drew | (refine Below.alloc ?_ (by first | omega | (simp; done) | (simp; omega)) _)))).mono (by first | omega | (simp; done) | (simp; omega))) PS.out).mono ?_; rintro e3 W2 ⟨rfl, b2⟩; rw [E.out]; have s2 : w.heap.size < W2.heap.size := (by have := b2.size; (try simp at this); omega); obtain ⟨k2, f2⟩ := bcell b2; have d2 : Below w.heap.size w W2 := (by repeat (first | assumption | exact Below.refl _ _ | (refine Below.trans ?_ (b2.mono (by first | omega | (simp; done) | (simp; omega)))) | (refine Below.trans ?_ (b1.mono (by first | omega | (simp; done) | (simp; omega)))) | (refine Below.setCell ?_ (by first | omega | (simp; done) | (simp; omega)) _) | apply below_drewN | apply Below.drew | (refine Below.alloc ?_ (by first | omega | (simp; done) | (simp; omega)) _)))))
      go_wp2
      go_ret2
      exact ⟨rfl, d2⟩

end Go.Proofs.Ytlibmlbefboolaa
