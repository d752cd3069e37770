import Derived.Test.YthfemghfkfmkdaaGreatDoorSortI
import Derived.Test.YthfemghfkfmkdaaGreatDoorClos
import Derived.IntWalk
namespace Go.Proofs.YthfemghfkfmkdaaGreatDoor
open Go.RowKit

def offP (mid most : Int) (x : Int) : Bool := decide (x < mid - most ∨ mid + most < x)
def wgList (mid most : Int) (xs : List Int) : Nat → List Int
  | 0 => []
  | k + 1 => wgList mid most xs k ++ if offP mid most (xs.getD k 0) then [(k : Int)] else []
theorem wg_len (mid most : Int) (xs : List Int) (k : Nat) : (wgList mid most xs k).length ≤ k := by
  induction k with
  | zero => simp [wgList]
  | succ k ih => simp only [wgList]; split <;> simp <;> omega
theorem wg_yes {mid most : Int} {xs : List Int} {k : Nat} (h : offP mid most (xs.getD k 0) = true) : wgList mid most xs (k + 1) = wgList mid most xs k ++ [(k : Int)] := by rw [wgList, if_pos h]
theorem wg_no {mid most : Int} {xs : List Int} {k : Nat} (h : offP mid most (xs.getD k 0) = false) : wgList mid most xs (k + 1) = wgList mid most xs k := by rw [wgList, if_neg (by rw [h]; decide), List.append_nil]
theorem wg_ix (mid most : Int) (xs : List Int) (n : Nat) : wgList mid most xs n = ixN (fun k => offP mid most (xs.getD k 0)) n := by
  induction n with
  | zero => rfl
  | succ n ih => simp only [wgList, ixN]; rw [ih]
def wgOk (xs : List Int) (most : Int) : Prop := LvOk xs.length xs ∧ 0 ≤ most ∧ most ≤ 4000
instance (xs : List Int) (most : Int) : Decidable (wgOk xs most) := by unfold wgOk; exact inferInstance
def r0_WrongGauges (xa0 : List Int) (a1 : Int) : List Int := if wgOk xa0 a1 then wgList (midOf xa0) a1 xa0 xa0.length else []
def r1_WrongGauges (xa0 : List Int) (a1 : Int) : Int := if wgOk xa0 a1 then 0 else 2
theorem len_r0_WrongGauges (xa0 : List Int) (a1 : Int) : (r0_WrongGauges xa0 a1).length ≤ 1048576 := by
  unfold r0_WrongGauges
  split
  · rename_i h
    have := wg_len (midOf xa0) a1 xa0 xa0.length
    have := h.1.2
    omega
  · simp
set_option maxRecDepth 100000 in
set_option maxHeartbeats 3200000 in
theorem implC_WrongGauges (a0 : Option Addr) (la0 ca0 : Nat) (xa0 : List Int) (a1 : Int) (w : World) (ha0 : la0 ≤ 1048576) (ra0 : Rd w w.heap.size a0 la0 xa0) (fa0 : Wf xa0) (ha1 : (Lit.int .i64 a1).wf = true) :
    Calls Tryz.prog 6 #[.slice a0 la0 ca0, .int .i64 a1] w fun e w' => ∃ B0 dB0, e = .returned (.tuple #[.slice B0 (r0_WrongGauges xa0 a1).length dB0, .int .i64 (r1_WrongGauges xa0 a1)]) ∧ Below w.heap.size w w' ∧ Wr w' w.heap.size B0 (r0_WrongGauges xa0 a1).length (r0_WrongGauges xa0 a1) := by
  have hln := ra0.1
  have RA := Lib.hid ra0
  clear ra0
  by_cases h : wgOk xa0 a1
  · rw [show r0_WrongGauges xa0 a1 = wgList (midOf xa0) a1 xa0 xa0.length from if_pos h, show r1_WrongGauges xa0 a1 = 0 from if_pos h, hln, wg_ix]
    obtain ⟨hv, hm1, hm2⟩ := h
    rw [hln] at hv
    have HV := Lib.hid hv
    have h60 := hv.2
    clear hv
    by_cases h0 : 0 < la0
    · obtain ⟨g1, g2⟩ := mid_bd (xs := xa0) (by rw [hln]; exact HV.out) (by omega)
      have HM := Lib.hid (show (srt xa0).getD ((la0 - 1) / 2) 0 = midOf xa0 by unfold midOf; rw [hln])
      obtain ⟨mid, hmid⟩ : ∃ m, m = midOf xa0 := ⟨_, rfl⟩
      rw [← hmid] at g1 g2 HM
      rw [← hmid]
      clear hmid
      have e0 : ((la0 : Int) == 0) = false := by simp; omega
      go_enter Tryz.func6, Tryz.ntmps6
      go_wp2_with (first | (go_at_call 31; refine (areGauges_any _ _ _ xa0 _ ha0 ((RA.out.below (by repeat (first | assumption | exact Below.refl _ _ | (refine Below.setCell ?_ (by first | omega | (simp; done) | (simp; omega)) _) | apply below_drewN | apply Below.drew | (refine Below.alloc ?_ (by first | omega | (simp; done) | (simp; omega)) _)))).mono (by first | omega | (simp; done) | (simp; omega))) true ⟨fun _ => HV.out, fun _ => rfl⟩).mono ?_; rintro e w' ⟨rfl, rfl⟩) | (go_at_call 32; first | (refine (within_t _ _ _ _ (by omega)).mono ?_; rintro e w' ⟨rfl, rfl⟩) | (refine (within_f _ _ _ _ (by omega)).mono ?_; rintro e w' ⟨rfl, rfl⟩)) | (go_at_call 33; refine (middleOf_t _ _ _ xa0 _ ha0 h0 ((RA.out.below (by repeat (first | assumption | exact Below.refl _ _ | (refine Below.setCell ?_ (by first | omega | (simp; done) | (simp; omega)) _) | apply below_drewN | apply Below.drew | (refine Below.alloc ?_ (by first | omega | (simp; done) | (simp; omega)) _)))).mono (by first | omega | (simp; done) | (simp; omega)))).mono ?_; rintro e1 W1 ⟨rfl, b1⟩; rw [HM.out]; have s1 : w.heap.size + 1 < W1.heap.size := (by have := b1.size; simp at this; omega); have s0 : w.heap.size < W1.heap.size := (by omega); have t1 : W1.cell? ⟨w.heap.size, 0, none⟩ = some (.slice a0 la0 ca0) := (b1.cell (p := ⟨w.heap.size, 0, none⟩) (by first | omega | (simp; done) | (simp; omega))).trans (by first | (simp; done) | go_simp); have t2 : W1.cell? ⟨w.heap.size + 1, 0, none⟩ = some (.int .i64 a1) := (b1.cell (p := ⟨w.heap.size + 1, 0, none⟩) (by first | omega | (simp; done) | (simp; omega))).trans (by first | (simp; done) | go_simp); have d1 : Below w.heap.size w W1 := (by repeat (first | assumption | exact Below.refl _ _ | (refine Below.trans ?_ (b1.mono (by first | omega | (simp; done) | (simp; omega)))) | (refine Below.setCell ?_ (by first | omega | (simp; done) | (simp; omega)) _) | apply below_drewN | apply Below.drew | (refine Below.alloc ?_ (by first | omega | (simp; done) | (simp; omega)) _))); clear b1) | (go_at_call 34; refine (ix_wg (.pointer (some ⟨w.heap.size, 0, none⟩)) (.pointer (some ⟨W1.heap.size, 0, none⟩)) (.pointer (some ⟨w.heap.size + 1, 0, none⟩)) la0 (fun k => offP mid a1 (xa0.getD k 0)) _ (by omega) ?hcl).mono ?_; (case hcl => exact fun i k W v hi hk hb hv => (by obtain ⟨ab, o, rfl, hbB, hc⟩ := RA.out.2 (by omega); have bW : Below W1.heap.size W1 W := ((Below.refl W1.heap.size W1).alloc (Nat.le_refl _) _).trans (hb.mono (by simp)); have dW : Below w.heap.size w W := d1.trans (bW.mono (by omega)); exact wgCl_t _ _ _ k la0 ca0 ab o i mid a1 _ W hi hk ha0 ((bW.cell (p := ⟨w.heap.size, 0, none⟩) (by omega)).trans t1) ((hb.cell (p := ⟨W1.heap.size, 0, none⟩) (by simp)).trans (by simp)) ((bW.cell (p := ⟨w.heap.size + 1, 0, none⟩) (by omega)).trans t2) ((dW.cell (p := ⟨ab, o + k, none⟩) hbB).trans (hc k hk)) ⟨g1, g2⟩ ⟨hm1, hm2⟩ v hv)); rintro e3 W3 ⟨B, d, rfl, b3, hw⟩; have HW := Lib.hid (hw.lower (show w.heap.size ≤ _ from (by simp; omega))); have d3 : Below w.heap.size w W3 := d1.trans ((((Below.refl W1.heap.size W1).alloc (Nat.le_refl _) _).trans (b3.mono (by simp))).mono (by omega)); clear hw b3))
      go_ret2
      exact ⟨B, d, rfl, d3, HW.out⟩
    · obtain rfl : la0 = 0 := by omega
      go_enter Tryz.func6, Tryz.ntmps6
      go_wp2_with (first | (go_at_call 31; refine (areGauges_any _ _ _ xa0 _ ha0 ((RA.out.below (by repeat (first | assumption | exact Below.refl _ _ | (refine Below.setCell ?_ (by first | omega | (simp; done) | (simp; omega)) _) | apply below_drewN | apply Below.drew | (refine Below.alloc ?_ (by first | omega | (simp; done) | (simp; omega)) _)))).mono (by first | omega | (simp; done) | (simp; omega))) true ⟨fun _ => HV.out, fun _ => rfl⟩).mono ?_; rintro e w' ⟨rfl, rfl⟩) | (go_at_call 32; first | (refine (within_t _ _ _ _ (by omega)).mono ?_; rintro e w' ⟨rfl, rfl⟩) | (refine (within_f _ _ _ _ (by omega)).mono ?_; rintro e w' ⟨rfl, rfl⟩)))
      go_ret2
      exact ⟨none, 0, rfl, (by repeat (first | assumption | exact Below.refl _ _ | (refine Below.setCell ?_ (by first | omega | (simp; done) | (simp; omega)) _) | apply below_drewN | apply Below.drew | (refine Below.alloc ?_ (by first | omega | (simp; done) | (simp; omega)) _))), rfl, fun h => absurd h (by simp [ixN])⟩
  · rw [show r0_WrongGauges xa0 a1 = [] from if_neg h, show r1_WrongGauges xa0 a1 = 2 from if_neg h]
    unfold wgOk at h
    rw [hln] at h
    by_cases hv : LvOk la0 xa0
    · have HV := Lib.hid hv
      have hm : a1 < 0 ∨ 4000 < a1 := by
        by_cases hm : 0 ≤ a1 ∧ a1 ≤ 4000
        · exact absurd ⟨hv, hm⟩ h
        · omega
      clear hv h
      go_enter Tryz.func6, Tryz.ntmps6
      go_wp2_with (first | (go_at_call 31; refine (areGauges_any _ _ _ xa0 _ ha0 ((RA.out.below (by repeat (first | assumption | exact Below.refl _ _ | (refine Below.setCell ?_ (by first | omega | (simp; done) | (simp; omega)) _) | apply below_drewN | apply Below.drew | (refine Below.alloc ?_ (by first | omega | (simp; done) | (simp; omega)) _)))).mono (by first | omega | (simp; done) | (simp; omega))) true ⟨fun _ => HV.out, fun _ => rfl⟩).mono ?_; rintro e w' ⟨rfl, rfl⟩) | (go_at_call 32; first | (refine (within_t _ _ _ _ (by omega)).mono ?_; rintro e w' ⟨rfl, rfl⟩) | (refine (within_f _ _ _ _ (by omega)).mono ?_; rintro e w' ⟨rfl, rfl⟩)))
      go_ret2
      exact ⟨none, 0, rfl, (by repeat (first | assumption | exact Below.refl _ _ | (refine Below.setCell ?_ (by first | omega | (simp; done) | (simp; omega)) _) | apply below_drewN | apply Below.drew | (refine Below.alloc ?_ (by first | omega | (simp; done) | (simp; omega)) _))), rfl, fun h => absurd h (by simp)⟩
    · have HV := Lib.hid hv
      clear hv h
      go_enter Tryz.func6, Tryz.ntmps6
      go_wp2_with (first | (go_at_call 31; refine (areGauges_any _ _ _ xa0 _ ha0 ((RA.out.below (by repeat (first | assumption | exact Below.refl _ _ | (refine Below.setCell ?_ (by first | omega | (simp; done) | (simp; omega)) _) | apply below_drewN | apply Below.drew | (refine Below.alloc ?_ (by first | omega | (simp; done) | (simp; omega)) _)))).mono (by first | omega | (simp; done) | (simp; omega))) false ⟨fun h => by simp at h, fun h => absurd h HV.out⟩).mono ?_; rintro e w' ⟨rfl, rfl⟩) | (go_at_call 32; first | (refine (within_t _ _ _ _ (by omega)).mono ?_; rintro e w' ⟨rfl, rfl⟩) | (refine (within_f _ _ _ _ (by omega)).mono ?_; rintro e w' ⟨rfl, rfl⟩)))
      go_ret2
      exact ⟨none, 0, rfl, (by repeat (first | assumption | exact Below.refl _ _ | (refine Below.setCell ?_ (by first | omega | (simp; done) | (simp; omega)) _) | apply below_drewN | apply Below.drew | (refine Below.alloc ?_ (by first | omega | (simp; done) | (simp; omega)) _))), rfl, fun h => absurd h (by simp)⟩

set_option maxHeartbeats 400000 in
theorem size_t (n : Int) (w : World) (h1 : -1000000000 ≤ n) (h2 : n ≤ 1000000000) :
    Calls Tryz.prog 38 #[.int .i64 n] w fun e w' => e = .returned (.int .i64 (n.natAbs : Int)) ∧ w = w' := by
  by_cases h : n < 0
  · go_enter Tryz.func38, Tryz.ntmps38
    go_wp2
    go_ret
    exact ⟨ret_int (by omega), rfl⟩
  · go_enter Tryz.func38, Tryz.ntmps38
    go_wp2
    go_ret
    exact ⟨ret_int (by omega), rfl⟩

theorem size_e (n m : Int) (w : World) (e : n = m) (h1 : -1000000000 ≤ m) (h2 : m ≤ 1000000000) :
    Calls Tryz.prog 38 #[.int .i64 n] w fun e w' => e = .returned (.int .i64 (m.natAbs : Int)) ∧ w = w' := by
  subst e
  exact size_t n w h1 h2

set_option maxRecDepth 100000 in
set_option maxHeartbeats 3200000 in
theorem specC_WrongGauges (a0 : Option Addr) (la0 ca0 : Nat) (xa0 : List Int) (a1 : Int) (w : World) (ha0 : la0 ≤ 1048576) (ra0 : Rd w w.heap.size a0 la0 xa0) (fa0 : Wf xa0) (ha1 : (Lit.int .i64 a1).wf = true) :
    Calls Tryz.prog 7 #[.slice a0 la0 ca0, .int .i64 a1] w fun e w' => ∃ B0 dB0, e = .returned (.tuple #[.slice B0 (r0_WrongGauges xa0 a1).length dB0, .int .i64 (r1_WrongGauges xa0 a1)]) ∧ Below w.heap.size w w' ∧ Wr w' w.heap.size B0 (r0_WrongGauges xa0 a1).length (r0_WrongGauges xa0 a1) := by
  have hln := ra0.1
  have RA := Lib.hid ra0
  clear ra0
  by_cases h : wgOk xa0 a1
  · rw [show r0_WrongGauges xa0 a1 = wgList (midOf xa0) a1 xa0 xa0.length from if_pos h, show r1_WrongGauges xa0 a1 = 0 from if_pos h, hln]
    obtain ⟨hv, hm1, hm2⟩ := h
    rw [hln] at hv
    have HV := Lib.hid hv
    have h60 := hv.2
    clear hv
    have HM := Lib.hid (show (srt xa0).getD ((la0 - 1) / 2) 0 = midOf xa0 by unfold midOf; rw [hln])
    have HB := Lib.hid (show 0 < la0 → -2000 ≤ midOf xa0 ∧ midOf xa0 ≤ 2000 from fun h0 => mid_bd (xs := xa0) (by rw [hln]; exact HV.out) (by omega))
    obtain ⟨mid, hmid⟩ : ∃ m, m = midOf xa0 := ⟨_, rfl⟩
    rw [← hmid] at HM HB
    rw [← hmid]
    clear hmid
    go_enter Tryz.func7, Tryz.ntmps7
    go_wp2_with (first | (go_at_call 36; refine (l02List_any _ _ _ xa0 _ ha0 RA.out true ⟨fun _ => HV.out, fun _ => rfl⟩).mono ?_; rintro e w' ⟨rfl, rfl⟩; rw [show codeOf true = 0 from rfl]) | (go_at_call 37; first | (refine (in_t _ _ _ _ (by omega)).mono ?_; rintro e w' ⟨rfl, rfl⟩) | (refine (in_f _ _ _ _ (by omega)).mono ?_; rintro e w' ⟨rfl, rfl⟩)))
    go_loopw [7, 8] (fun v i wr => ∃ q : Nat, q ≤ la0 ∧ i = .int .i64 (q : Int) ∧ Below w.heap.size w wr ∧ w.heap.size ≤ wr.heap.size ∧ wr.ownsRow w.heap.size 2 1 v (wgList mid a1 xa0 q).length ((wgList mid a1 xa0 q).map (Value.int .i64))) (fun _ i _ => la0 - (intOf i).toNat)
    case atStart => exact ⟨0, by omega, rfl, (by repeat (first | assumption | exact Below.refl _ _ | (refine Below.setCell ?_ (by first | omega | (simp; done) | (simp; omega)) _) | apply below_drewN | apply Below.drew | (refine Below.alloc ?_ (by first | omega | (simp; done) | (simp; omega)) _))), by simp, owns_made rfl (Nat.le_refl _)⟩
    case round =>
      obtain ⟨q, hq, rfl, hb, hz, hown⟩ := hrel
      by_cases hlt : q < la0
      · obtain ⟨b, o, e0, hbB, hc⟩ := RA.out.2 (by omega)
        have c1 := (hb.cell (p := ⟨b, o + q, none⟩) hbB).trans (hc q hlt)
        clear hc
        subst e0
        have hml := wg_len mid a1 xa0 q
        obtain ⟨g1, g2⟩ := HB.out (by omega)
        have hg := HV.out.1 q hlt
        cases ho : offP mid a1 (xa0.getD q 0)
        · have EN := Lib.hid (wg_no ho)
          have ht : mid - a1 ≤ xa0.getD q 0 ∧ xa0.getD q 0 ≤ mid + a1 := by have := of_decide_eq_false ho; omega
          clear ho
          obtain ⟨x, hx⟩ : ∃ x, x = xa0.getD q 0 := ⟨_, rfl⟩
          rw [← hx] at c1 hg ht
          clear hx
          obtain ⟨t1, t2⟩ := ht
          have t3 : ¬ a1 < ((x - mid).natAbs : Int) := by omega
          obtain ⟨g3, g4⟩ := hg
          have HW := Lib.hid (IntWalk.i64_in (x - mid) (by omega))
          go_wp2_with fail
          go_region_held3 (fun w' => w'.cell? ⟨b, o + q, none⟩ = some (.int .i64 x)) (go_keep) (first | (go_at_call 39; refine (l02Middle_t _ _ _ xa0 _ ha0 (by omega) ((RA.out.below (by repeat (first | assumption | exact Below.refl _ _ | (refine Below.trans ?_ (hb.mono (by first | omega | (simp; done) | (simp; omega)))) | (refine Below.setCell ?_ (by first | omega | (simp; done) | (simp; omega)) _) | apply below_drewN | apply Below.drew | (refine Below.alloc ?_ (by first | omega | (simp; done) | (simp; omega)) _)))).mono (by first | omega | (simp; done) | (simp; omega)))).mono ?_; rintro e1 W1 ⟨rfl, b1⟩; rw [HM.out]; have s1 : wr.heap.size ≤ W1.heap.size := b1.size; have c2 : W1.cell? ⟨b, o + q, none⟩ = _ := (b1.cell (p := ⟨b, o + q, none⟩) (show b < wr.heap.size by omega)).trans c1; have d1 : Below wr.heap.size wr W1 := (by repeat (first | assumption | exact Below.refl _ _ | (refine Below.trans ?_ (b1.mono (by first | omega | (simp; done) | (simp; omega)))) | (refine Below.setCell ?_ (by first | omega | (simp; done) | (simp; omega)) _) | apply below_drewN | apply Below.drew | (refine Below.alloc ?_ (by first | omega | (simp; done) | (simp; omega)) _)))) | (go_at_call 38; refine (size_e _ (x - mid) _ HW.out (by omega) (by omega)).mono ?_; rintro e w' ⟨rfl, rfl⟩))
          go_wp2
          go_roundw
          case rel => exact ⟨q + 1, by omega, by go_num, hb.trans (d1.mono (by omega)), by omega, by rw [EN.out]; exact owns_below hown d1⟩
          case measure => simp [intOf]; omega
        · have EY := Lib.hid (wg_yes ho)
          have ht : xa0.getD q 0 < mid - a1 ∨ mid + a1 < xa0.getD q 0 := of_decide_eq_true ho
          clear ho
          obtain ⟨x, hx⟩ : ∃ x, x = xa0.getD q 0 := ⟨_, rfl⟩
          rw [← hx] at c1 hg ht
          clear hx
          have t3 : a1 < ((x - mid).natAbs : Int) := by omega
          obtain ⟨g3, g4⟩ := hg
          have HW := Lib.hid (IntWalk.i64_in (x - mid) (by omega))
          clear ht
          go_wp2_with fail
          go_region_held3 (fun w' => w'.cell? ⟨b, o + q, none⟩ = some (.int .i64 x)) (go_keep) (first | (go_at_call 39; refine (l02Middle_t _ _ _ xa0 _ ha0 (by omega) ((RA.out.below (by repeat (first | assumption | exact Below.refl _ _ | (refine Below.trans ?_ (hb.mono (by first | omega | (simp; done) | (simp; omega)))) | (refine Below.setCell ?_ (by first | omega | (simp; done) | (simp; omega)) _) | apply below_drewN | apply Below.drew | (refine Below.alloc ?_ (by first | omega | (simp; done) | (simp; omega)) _)))).mono (by first | omega | (simp; done) | (simp; omega)))).mono ?_; rintro e1 W1 ⟨rfl, b1⟩; rw [HM.out]; have s1 : wr.heap.size ≤ W1.heap.size := b1.size; have c2 : W1.cell? ⟨b, o + q, none⟩ = _ := (b1.cell (p := ⟨b, o + q, none⟩) (show b < wr.heap.size by omega)).trans c1; have d1 : Below wr.heap.size wr W1 := (by repeat (first | assumption | exact Below.refl _ _ | (refine Below.trans ?_ (b1.mono (by first | omega | (simp; done) | (simp; omega)))) | (refine Below.setCell ?_ (by first | omega | (simp; done) | (simp; omega)) _) | apply below_drewN | apply Below.drew | (refine Below.alloc ?_ (by first | omega | (simp; done) | (simp; omega)) _)))) | (go_at_call 38; refine (size_e _ (x - mid) _ HW.out (by omega) (by omega)).mono ?_; rintro e w' ⟨rfl, rfl⟩))
          have h3 := owns_below hown d1
          go_wp2_with (at_builtin; refine wpl_app1 rfl _ _ rfl _ _ _ _ _ _ rfl (by exact h3) rfl (by omega) (by omega) ?_; intro v1 w1 hown1 hb1 hz1)
          go_roundw
          case rel => exact ⟨q + 1, by omega, by go_num, (hb.trans (d1.mono (by omega))).trans hb1, by omega, by rw [EY.out]; simpa using hown1⟩
          case measure => simp [intOf]; omega
      · obtain rfl : q = la0 := by omega
        go_wp2
        obtain ⟨B, d, rfl, hw⟩ := own_wr hown
        go_ret2
        exact ⟨B, d, rfl, hb, hw⟩
  · rw [show r0_WrongGauges xa0 a1 = [] from if_neg h, show r1_WrongGauges xa0 a1 = 2 from if_neg h]
    unfold wgOk at h
    rw [hln] at h
    by_cases hv : LvOk la0 xa0
    · have HV := Lib.hid hv
      have hm : a1 < 0 ∨ 4000 < a1 := by
        by_cases hm : 0 ≤ a1 ∧ a1 ≤ 4000
        · exact absurd ⟨hv, hm⟩ h
        · omega
      clear hv h
      go_enter Tryz.func7, Tryz.ntmps7
      go_wp2_with (first | (go_at_call 36; refine (l02List_any _ _ _ xa0 _ ha0 RA.out true ⟨fun _ => HV.out, fun _ => rfl⟩).mono ?_; rintro e w' ⟨rfl, rfl⟩; rw [show codeOf true = 0 from rfl]) | (go_at_call 37; first | (refine (in_t _ _ _ _ (by omega)).mono ?_; rintro e w' ⟨rfl, rfl⟩) | (refine (in_f _ _ _ _ (by omega)).mono ?_; rintro e w' ⟨rfl, rfl⟩)))
      go_ret2
      exact ⟨none, 0, rfl, Below.refl _ _, rfl, fun h => absurd h (by simp)⟩
    · have HV := Lib.hid hv
      clear hv h
      go_enter Tryz.func7, Tryz.ntmps7
      go_wp2_with (first | (go_at_call 36; refine (l02List_any _ _ _ xa0 _ ha0 RA.out false ⟨fun h => by simp at h, fun h => absurd h HV.out⟩).mono ?_; rintro e w' ⟨rfl, rfl⟩; rw [show codeOf false = 2 from rfl]) | (go_at_call 37; first | (refine (in_t _ _ _ _ (by omega)).mono ?_; rintro e w' ⟨rfl, rfl⟩) | (refine (in_f _ _ _ _ (by omega)).mono ?_; rintro e w' ⟨rfl, rfl⟩)))
      go_ret2
      exact ⟨none, 0, rfl, Below.refl _ _, rfl, fun h => absurd h (by simp)⟩

end Go.Proofs.YthfemghfkfmkdaaGreatDoor
