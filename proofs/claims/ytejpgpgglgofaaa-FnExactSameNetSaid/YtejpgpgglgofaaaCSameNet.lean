import Derived.Test.YtejpgpgglgofaaaNetC
namespace Go.Proofs.Ytejpgpgglgofaaa
open Go.RowKit

def r0_SameNet (a0_0 : Int) (xa0_1 : List RDitch) (a1_0 : Int) (xa1_1 : List RDitch) : Bool := decide (a0_0 = a1_0 ∧ xa0_1 = xa1_1)
theorem same_ditch {xs ys : List RDitch} (hl : xs.length = ys.length) (h : ∀ j, j < xs.length → xs.getD j zDitch = ys.getD j zDitch) : xs = ys := by
  apply List.ext_getElem hl
  intro j h1 h2
  have := h j h1
  rwa [getDDitch h1, getDDitch h2] at this
theorem snet_eq (r : Int) (xs : List RDitch) (r' : Int) (ys : List RDitch) (h1 : r = r') : r0_SameNet r xs r' ys = decide (xs = ys) := by
  unfold r0_SameNet
  simp [h1]
theorem snet_ne (r : Int) (xs : List RDitch) (r' : Int) (ys : List RDitch) (h1 : ¬ r = r') : r0_SameNet r xs r' ys = false := by
  unfold r0_SameNet
  simp [h1]

set_option maxHeartbeats 1600000 in
theorem slEqualD_t (A B : Option Addr) (n c m d : Nat) (xs ys : List RDitch) (w : World) (hn : n ≤ 1048576) (hm : m ≤ 1048576) (ha : Rd_Ditch w w.heap.size A n xs) (hb : Rd_Ditch w w.heap.size B m ys) (v : Bool) (hv : v = decide (xs = ys)) :
    Calls Try.prog 58 #[.slice A n c, .slice B m d] w fun e w' => e = .returned (.bool v) ∧ Below w.heap.size w w' := by
  by_cases hnm : n = m
  · subst hnm
    have h0 : ((n : Int) != (n : Int)) = false := by simp
    have hg := guardDitch
    have HA := Lib.hid ha
    have HB := Lib.hid hb
    have HV := Lib.hid hv
    clear ha hb hv
    go_enter Try.func58, Try.ntmps58
    go_wp2
    go_loopw [5, 13] (fun _ i wr => ∃ k m : Nat, k ≤ n ∧ i = .int .i64 (k : Int) ∧ wr = w.drewN m ∧ Hid (∀ j, j < k → xs.getD j zDitch = ys.getD j zDitch)) (fun _ i _ => n - (intOf i).toNat)
    case atStart => exact ⟨0, 0, by omega, rfl, rfl, fun j hj => absurd hj (by omega)⟩
    case round =>
      obtain ⟨k, m, hk, rfl, rfl, hr⟩ := hrel
      by_cases hlt : k < n
      · obtain ⟨b, o, rfl, hbB, hc⟩ := HA.out.at (by omega)
        obtain ⟨b', o', rfl, hbB', hc'⟩ := HB.out.at (by omega)
        have p := hc k hlt
        have p' := hc' k hlt
        clear hc hc'
        obtain ⟨x, hx⟩ := getZ xs k
        obtain ⟨y, hy⟩ := getZ ys k
        rw [← hx] at p
        rw [← hy] at p'
        have HX := Lib.hid hx
        have HY := Lib.hid hy
        clear hx hy
        obtain ⟨x0, x1, x2⟩ := x
        obtain ⟨y0, y1, y2⟩ := y
        obtain ⟨p0, p1, p2⟩ := p
        obtain ⟨p0', p1', p2'⟩ := p'
        simp only at p0 p1 p2 p0' p1' p2'
        by_cases he : (⟨x0, x1, x2⟩ : RDitch) = ⟨y0, y1, y2⟩
        · have e1 := neqDitch x0 x1 x2 y0 y1 y2 false (by rw [decide_eq_true he]; rfl)
          have HE := Lib.hid he
          clear he
          go_wp2
          go_quiet (fail)
          go_wp2
          go_roundw
          case rel => exact ⟨k + 1, _, by omega, by go_num, rfl, fun j hj => by
            by_cases e : j = k
            · subst e; rw [← HX.out, ← HY.out]; exact HE.out
            · exact hr.out j (by omega)⟩
          case measure => simp [intOf]; omega
        · have e1 := neqDitch x0 x1 x2 y0 y1 y2 true (by rw [decide_eq_false he]; rfl)
          have HE := Lib.hid he
          clear he
          go_wp2
          go_quiet (fail)
          go_wp2
          go_ret
          refine ⟨ret_bool ?_, (by repeat (first | assumption | exact Below.refl _ _ | (refine Below.setCell ?_ (by first | omega | (simp; done) | (simp; omega)) _) | apply below_drewN | apply Below.drew | (refine Below.alloc ?_ (by first | omega | (simp; done) | (simp; omega)) _)))⟩
          rw [HV.out]
          exact (decide_eq_false (fun h => HE.out (by rw [HX.out, HY.out, h]))).symm
      · obtain rfl : k = n := by omega
        go_wp2
        go_ret
        refine ⟨ret_bool ?_, (by repeat (first | assumption | exact Below.refl _ _ | (refine Below.setCell ?_ (by first | omega | (simp; done) | (simp; omega)) _) | apply below_drewN | apply Below.drew | (refine Below.alloc ?_ (by first | omega | (simp; done) | (simp; omega)) _)))⟩
        rw [HV.out]
        exact (decide_eq_true (same_ditch (by rw [HA.out.len, HB.out.len]) (fun j hj => hr.out j (by rw [HA.out.len] at hj; exact hj)))).symm
  · have h0 : ((n : Int) != (m : Int)) = true := by simp; omega
    have hf : v = false := by rw [hv]; exact decide_eq_false (fun h => hnm (by rw [← ha.len, ← hb.len, h]))
    have HF := Lib.hid hf
    clear hv hf hnm
    go_enter Try.func58, Try.ntmps58
    go_wp2
    go_ret
    exact ⟨ret_bool HF.out.symm, Below.refl _ _⟩

set_option maxHeartbeats 1600000 in
theorem implC_SameNet (a0_0 : Int) (a0_1 : Option Addr) (la0_1 ca0_1 : Nat) (xa0_1 : List RDitch) (a1_0 : Int) (a1_1 : Option Addr) (la1_1 ca1_1 : Nat) (xa1_1 : List RDitch) (w : World) (ha0_0 : (Lit.int .i64 a0_0).wf = true) (ha0_1 : la0_1 ≤ 1048576) (ra0_1 : Rd_Ditch w w.heap.size a0_1 la0_1 xa0_1) (fa0_1 : Wf_Ditch xa0_1) (ha1_0 : (Lit.int .i64 a1_0).wf = true) (ha1_1 : la1_1 ≤ 1048576) (ra1_1 : Rd_Ditch w w.heap.size a1_1 la1_1 xa1_1) (fa1_1 : Wf_Ditch xa1_1) :
    Calls Try.prog 21 #[.agg #[.int .i64 a0_0, .slice a0_1 la0_1 ca0_1], .agg #[.int .i64 a1_0, .slice a1_1 la1_1 ca1_1]] w fun e w' => e = .returned (.bool (r0_SameNet a0_0 xa0_1 a1_0 xa1_1)) ∧ Below w.heap.size w w' := by
  have RA := Lib.hid ra0_1
  have RB := Lib.hid ra1_1
  clear ra0_1 ra1_1
  by_cases h1 : a0_0 = a1_0
  · rw [snet_eq _ _ _ _ h1]
    have e1 : (a0_0 == a1_0) = true := by simp [h1]
    clear h1
    go_enter Try.func21, Try.ntmps21
    go_wp2_with (go_at_call 58; refine (slEqualD_t _ _ _ _ _ _ xa0_1 xa1_1 _ ha0_1 ha1_1 ((RA.out.below (by repeat (first | assumption | exact Below.refl _ _ | (refine Below.setCell ?_ (by first | omega | (simp; done) | (simp; omega)) _) | apply below_drewN | apply Below.drew | (refine Below.alloc ?_ (by first | omega | (simp; done) | (simp; omega)) _)))).mono (by first | omega | (simp; done) | (simp; omega))) ((RB.out.below (by repeat (first | assumption | exact Below.refl _ _ | (refine Below.setCell ?_ (by first | omega | (simp; done) | (simp; omega)) _) | apply below_drewN | apply Below.drew | (refine Below.alloc ?_ (by first | omega | (simp; done) | (simp; omega)) _)))).mono (by first | omega | (simp; done) | (simp; omega))) _ rfl).mono ?_; rintro e W1 ⟨rfl, b1⟩)
    go_ret
    exact ⟨rfl, (by repeat (first | assumption | exact Below.refl _ _ | (refine Below.trans ?_ (b1.mono (by first | omega | (simp; done) | (simp; omega)))) | (refine Below.setCell ?_ (by first | omega | (simp; done) | (simp; omega)) _) | apply below_drewN | apply Below.drew | (refine Below.alloc ?_ (by first | omega | (simp; done) | (simp; omega)) _)))⟩
  · rw [snet_ne _ _ _ _ h1]
    have e1 : (a0_0 == a1_0) = false := by simp [h1]
    clear h1
    go_enter Try.func21, Try.ntmps21
    go_wp2_with fail
    go_ret
    exact ⟨rfl, (by repeat (first | assumption | exact Below.refl _ _ | (refine Below.setCell ?_ (by first | omega | (simp; done) | (simp; omega)) _) | apply below_drewN | apply Below.drew | (refine Below.alloc ?_ (by first | omega | (simp; done) | (simp; omega)) _)))⟩

set_option maxHeartbeats 1600000 in
theorem specC_SameNet (a0_0 : Int) (a0_1 : Option Addr) (la0_1 ca0_1 : Nat) (xa0_1 : List RDitch) (a1_0 : Int) (a1_1 : Option Addr) (la1_1 ca1_1 : Nat) (xa1_1 : List RDitch) (w : World) (ha0_0 : (Lit.int .i64 a0_0).wf = true) (ha0_1 : la0_1 ≤ 1048576) (ra0_1 : Rd_Ditch w w.heap.size a0_1 la0_1 xa0_1) (fa0_1 : Wf_Ditch xa0_1) (ha1_0 : (Lit.int .i64 a1_0).wf = true) (ha1_1 : la1_1 ≤ 1048576) (ra1_1 : Rd_Ditch w w.heap.size a1_1 la1_1 xa1_1) (fa1_1 : Wf_Ditch xa1_1) :
    Calls Try.prog 20 #[.agg #[.int .i64 a0_0, .slice a0_1 la0_1 ca0_1], .agg #[.int .i64 a1_0, .slice a1_1 la1_1 ca1_1]] w fun e w' => e = .returned (.bool (r0_SameNet a0_0 xa0_1 a1_0 xa1_1)) ∧ Below w.heap.size w w' := by
  have RA := Lib.hid ra0_1
  have RB := Lib.hid ra1_1
  clear ra0_1 ra1_1
  by_cases h1 : a0_0 = a1_0
  · rw [snet_eq _ _ _ _ h1]
    have e1 : (a0_0 != a1_0) = false := by simp [h1]
    by_cases hnm : la0_1 = la1_1
    · subst hnm
      have h0 : ((la0_1 : Int) != (la0_1 : Int)) = false := by simp
      have hg := guardDitch
      clear h1
      go_enter Try.func20, Try.ntmps20
      go_wp2
      go_loopw [5] (fun i wr => ∃ k : Nat, k ≤ la0_1 ∧ i = .int .i64 (k : Int) ∧ wr.cell? ⟨w.heap.size, 1, none⟩ = some (.slice a0_1 la0_1 ca0_1) ∧ wr.cell? ⟨w.heap.size + 1, 1, none⟩ = some (.slice a1_1 la0_1 ca1_1) ∧ Below w.heap.size w wr ∧ w.heap.size + 1 < wr.heap.size ∧ Hid (∀ j, j < k → xa0_1.getD j zDitch = xa1_1.getD j zDitch)) (fun i _ => la0_1 - (intOf i).toNat)
      case atStart => exact ⟨0, by omega, rfl, by simp, by simp, (by repeat (first | assumption | exact Below.refl _ _ | (refine Below.setCell ?_ (by first | omega | (simp; done) | (simp; omega)) _) | apply below_drewN | apply Below.drew | (refine Below.alloc ?_ (by first | omega | (simp; done) | (simp; omega)) _))), by simp, fun j hj => absurd hj (by omega)⟩
      case round =>
        obtain ⟨k, hk, rfl, d0, d1, hb, hs, hr⟩ := hrel
        by_cases hlt : k < la0_1
        · obtain ⟨b, o, rfl, hbB, hc⟩ := (RA.out.below hb).at (by omega)
          obtain ⟨b', o', rfl, hbB', hc'⟩ := (RB.out.below hb).at (by omega)
          have p := hc k hlt
          have p' := hc' k hlt
          clear hc hc'
          obtain ⟨x, hx⟩ := getZ xa0_1 k
          obtain ⟨y, hy⟩ := getZ xa1_1 k
          rw [← hx] at p
          rw [← hy] at p'
          have HX := Lib.hid hx
          have HY := Lib.hid hy
          clear hx hy
          obtain ⟨x0, x1, x2⟩ := x
          obtain ⟨y0, y1, y2⟩ := y
          obtain ⟨p0, p1, p2⟩ := p
          obtain ⟨p0', p1', p2'⟩ := p'
          simp only at p0 p1 p2 p0' p1' p2'
          by_cases he : (⟨x0, x1, x2⟩ : RDitch) = ⟨y0, y1, y2⟩
          · have e2 := neqDitch x0 x1 x2 y0 y1 y2 false (by rw [decide_eq_true he]; rfl)
            have HE := Lib.hid he
            clear he
            go_wp2
            go_quiet (fail)
            go_wp2
            go_roundw
            case rel => exact ⟨k + 1, by omega, by go_num, d0, d1, (by repeat (first | assumption | exact Below.refl _ _ | (refine Below.setCell ?_ (by first | omega | (simp; done) | (simp; omega)) _) | apply below_drewN | apply Below.drew | (refine Below.alloc ?_ (by first | omega | (simp; done) | (simp; omega)) _))), hs, fun j hj => by
              by_cases e : j = k
              · subst e; rw [← HX.out, ← HY.out]; exact HE.out
              · exact hr.out j (by omega)⟩
            case measure => simp [intOf]; omega
          · have e2 := neqDitch x0 x1 x2 y0 y1 y2 true (by rw [decide_eq_false he]; rfl)
            have HE := Lib.hid he
            clear he
            go_wp2
            go_quiet (fail)
            go_wp2
            go_ret
            refine ⟨ret_bool ?_, (by repeat (first | assumption | exact Below.refl _ _ | (refine Below.setCell ?_ (by first | omega | (simp; done) | (simp; omega)) _) | apply below_drewN | apply Below.drew | (refine Below.alloc ?_ (by first | omega | (simp; done) | (simp; omega)) _)))⟩
            exact (decide_eq_false (fun h => HE.out (by rw [HX.out, HY.out, h]))).symm
        · obtain rfl : k = la0_1 := by omega
          go_wp2
          go_ret
          refine ⟨ret_bool ?_, (by repeat (first | assumption | exact Below.refl _ _ | (refine Below.setCell ?_ (by first | omega | (simp; done) | (simp; omega)) _) | apply below_drewN | apply Below.drew | (refine Below.alloc ?_ (by first | omega | (simp; done) | (simp; omega)) _)))⟩
          exact (decide_eq_true (same_ditch (by rw [RA.out.len, RB.out.len]) (fun j hj => hr.out j (by rw [RA.out.len] at hj; exact hj)))).symm
    · have h0 : ((la0_1 : Int) != (la1_1 : Int)) = true := by simp; omega
      have hf : decide (xa0_1 = xa1_1) = false := decide_eq_false (fun h => hnm (by rw [← RA.out.len, ← RB.out.len, h]))
      rw [hf]
      clear hf hnm h1
      go_enter Try.func20, Try.ntmps20
      go_wp2
      go_ret
      exact ⟨rfl, (by repeat (first | assumption | exact Below.refl _ _ | (refine Below.setCell ?_ (by first | omega | (simp; done) | (simp; omega)) _) | apply below_drewN | apply Below.drew | (refine Below.alloc ?_ (by first | omega | (simp; done) | (simp; omega)) _)))⟩
  · rw [snet_ne _ _ _ _ h1]
    have e1 : (a0_0 != a1_0) = true := by simp [h1]
    clear h1
    go_enter Try.func20, Try.ntmps20
    go_wp2_with fail
    go_ret
    exact ⟨rfl, (by repeat (first | assumption | exact Below.refl _ _ | (refine Below.setCell ?_ (by first | omega | (simp; done) | (simp; omega)) _) | apply below_drewN | apply Below.drew | (refine Below.alloc ?_ (by first | omega | (simp; done) | (simp; omega)) _)))⟩

end Go.Proofs.Ytejpgpgglgofaaa
