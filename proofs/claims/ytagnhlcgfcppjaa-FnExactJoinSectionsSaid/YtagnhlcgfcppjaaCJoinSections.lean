import Derived.Test.YtagnhlcgfcppjaaOwnQ
import Derived.Test.YtagnhlcgfcppjaaDikeR
import Derived.StillTailTactics
namespace Go.Proofs.Ytagnhlcgfcppjaa
open Go.RowKit

def r0_JoinSections (xa0 : List RSection) : List RSection := if DkOk xa0.length xa0 then jnN xa0 xa0.length else []
def r1_JoinSections (xa0 : List RSection) : Int := dcode xa0.length xa0 True
theorem len_r0_JoinSections (xa0 : List RSection) : (r0_JoinSections xa0).length ≤ 1048576 := by
  unfold r0_JoinSections
  split
  · rename_i h
    have := h.2.2
    have := (jn_facts h xa0.length (Nat.le_refl _)).1
    omega
  · simp

set_option maxRecDepth 100000 in
set_option maxHeartbeats 800000 in
theorem implC_JoinSections (a0 : Option Addr) (la0 ca0 : Nat) (xa0 : List RSection) (w : World) (ha0 : la0 ≤ 1048576) (ra0 : Rd_Section w w.heap.size a0 la0 xa0) (fa0 : Wf_Section xa0) (ka0 : la0 ≤ ca0) :
    Calls Try.prog 44 #[.slice a0 la0 ca0] w fun e w' => ∃ B0 dB0, e = .returned (.tuple #[.slice B0 (r0_JoinSections xa0).length dB0, .int .i64 (r1_JoinSections xa0)]) ∧ Below w.heap.size w w' ∧ Wr_Section w' w.heap.size B0 (r0_JoinSections xa0).length (r0_JoinSections xa0) := by
  have hln := ra0.len
  have RA := Lib.hid ra0
  clear ra0
  clear fa0
  by_cases h : DkOk la0 xa0
  · have e0 : r0_JoinSections xa0 = jnN xa0 la0 := by unfold r0_JoinSections; rw [hln, if_pos h]
    have e1 : r1_JoinSections xa0 = 0 := by unfold r1_JoinSections; rw [hln]; exact dcode_ok h trivial
    rw [e0, e1]
    have HV := Lib.hid h
    have HC := Lib.hid (dcode_ok (P := True) h trivial)
    have h30 := h.2.2
    obtain ⟨N, rfl⟩ : ∃ N, la0 = N + 1 := ⟨la0 - 1, by have := h.2.1; omega⟩
    obtain ⟨ab, o, rfl, hbB, hc⟩ := RA.out.at (by omega)
    have p := hc 0 (by omega)
    have HJ1 := Lib.hid (jnN_one xa0)
    obtain ⟨x, hx⟩ := getZs xa0 0
    rw [← hx] at p HJ1
    clear hx
    obtain ⟨x0, x1⟩ := x
    obtain ⟨p0, p1⟩ := p
    simp only [Nat.zero_mul, Nat.add_zero] at p0 p1
    have k1 : (1 : Int) ≤ (N : Int) + 1 := by omega
    have k2 : (N : Int) + 1 ≤ (ca0 : Int) := by omega
    have k3 : N + 1 ≤ ca0 := ka0
    have HO0 : ∀ W : World, Below w.heap.size w W → w.heap.size ≤ W.heap.size → (W.alloc (.cells #[.int .i64 x0, .int .i64 x1] 58)).ownsRow w.heap.size 58 2 (.slice (some ⟨W.heap.size, 0, none⟩) 1 1) (jnN xa0 (0 + 1)).length (csSection (jnN xa0 (0 + 1))) := fun W hW hz => by
      rw [show (0 : Nat) + 1 = 1 from rfl, HJ1.out]
      exact ⟨rfl, .inr ⟨_, 1, #[.int .i64 x0, .int .i64 x1], rfl, hz, heap_alloc_new W _, Nat.le_refl _, by decide, rfl, rfl⟩⟩
    have HO := Lib.hid HO0
    clear e0 e1 h hc HO0
    go_enter Try.func44, Try.ntmps44
    go_wp2_with (first | (go_at_call 57; refine (dikeCode_t _ _ _ xa0 _ (True) _ ha0 ((RA.out.below (by repeat (first | assumption | exact Below.refl _ _ | (refine Below.setCell ?_ (by first | omega | (simp; done) | (simp; omega)) _) | apply below_drewN | apply Below.drew | (refine Below.alloc ?_ (by first | omega | (simp; done) | (simp; omega)) _)))).mono (by first | omega | (simp; done) | (simp; omega))) (fun _ => rfl) _ HC.out).mono ?_; rintro ed W2 ⟨rfl, b2⟩; have s2 : w.heap.size ≤ W2.heap.size := (by have := b2.size; (try simp at this); omega); have d2 : Below w.heap.size w W2 := (by repeat (first | assumption | exact Below.refl _ _ | (refine Below.trans ?_ (b2.mono (by first | omega | (simp; done) | (simp; omega)))) | (refine Below.setCell ?_ (by first | omega | (simp; done) | (simp; omega)) _) | apply below_drewN | apply Below.drew | (refine Below.alloc ?_ (by first | omega | (simp; done) | (simp; omega)) _))); have q0 : W2.cell? ⟨ab, o, none⟩ = _ := (d2.cell (p := ⟨ab, o, none⟩) hbB).trans p0; have q1 : W2.cell? ⟨ab, o + 1, none⟩ = _ := (d2.cell (p := ⟨ab, o + 1, none⟩) hbB).trans p1))
    case inl =>
      have hl1 : N = 0 := by omega
      go_loopw [5, 7, 8, 21] (fun v _ _ i wr => ∃ k : Nat, k ≤ N ∧ i = .int .i64 (k : Int) ∧ Below w.heap.size w wr ∧ w.heap.size ≤ wr.heap.size ∧ wr.ownsRow w.heap.size 58 2 v (jnN xa0 (k + 1)).length (csSection (jnN xa0 (k + 1)))) (fun _ _ _ i _ => N - (intOf i).toNat)
      case atStart => exact ⟨0, by omega, rfl, (by repeat (first | assumption | exact Below.refl _ _ | (refine Below.trans ?_ (d2.mono (by first | omega | (simp; done) | (simp; omega)))) | (refine Below.setCell ?_ (by first | omega | (simp; done) | (simp; omega)) _) | apply below_drewN | apply Below.drew | (refine Below.alloc ?_ (by first | omega | (simp; done) | (simp; omega)) _))), by simp; omega, HO.out W2 d2 s2⟩
      case round =>
        obtain ⟨k, hk, rfl, hb, hz, hown⟩ := hrel
        by_cases hlt : k < N
        · exact absurd hlt (by omega)
        · obtain rfl : k = N := by omega
          obtain ⟨B, d, rfl, hw⟩ := own_wrSection hown
          go_wp2
          go_ret2
          exact ⟨B, d, rfl, hb, hw⟩
    case inr =>
      go_loopw [5, 7, 8, 21] (fun v _ _ i wr => ∃ k : Nat, k ≤ N ∧ i = .int .i64 (k : Int) ∧ Below w.heap.size w wr ∧ w.heap.size ≤ wr.heap.size ∧ wr.ownsRow w.heap.size 58 2 v (jnN xa0 (k + 1)).length (csSection (jnN xa0 (k + 1)))) (fun _ _ _ i _ => N - (intOf i).toNat)
      case atStart => exact ⟨0, by omega, rfl, (by repeat (first | assumption | exact Below.refl _ _ | (refine Below.trans ?_ (d2.mono (by first | omega | (simp; done) | (simp; omega)))) | (refine Below.setCell ?_ (by first | omega | (simp; done) | (simp; omega)) _) | apply below_drewN | apply Below.drew | (refine Below.alloc ?_ (by first | omega | (simp; done) | (simp; omega)) _))), by simp; omega, HO.out W2 d2 s2⟩
      case round =>
        obtain ⟨k, hk, rfl, hb, hz, hown⟩ := hrel
        by_cases hlt : k < N
        · obtain ⟨j1, j2, j3, j4⟩ := jn_facts HV.out (k + 1) (by omega)
          have hj0 := j2 (by omega)
          have HIN := Lib.hid (fun m hl => jnN_in (xs := xa0) (k := k + 1) (m := m) hl)
          have HOUT := Lib.hid (fun m hl => jnN_out (xs := xa0) (k := k + 1) (m := m) hl)
          have hd := HV.out.1 (k + 1) (by omega)
          obtain ⟨p, _⟩ := (RA.out.below hb).at' (k := k + 1) (by omega)
          rw [show o + (k + 1) * 2 = o + 2 + k * 2 by omega] at p
          obtain ⟨J, hJ⟩ : ∃ J, J = jnN xa0 (k + 1) := ⟨_, rfl⟩
          rw [← hJ] at hown j1 j3 hj0 HIN HOUT
          clear hJ j2 j4
          obtain ⟨m, hm⟩ : ∃ m, J.length = m + 1 := ⟨J.length - 1, by omega⟩
          have HI := HIN.out m hm
          have HT := HOUT.out m hm
          obtain ⟨y3, y4, y5, y6⟩ := j3 m (by omega)
          rw [hm] at hown j1
          obtain ⟨g, cap, rfl, hg0, hg1, hcap⟩ := own_form' hown (by omega)
          obtain ⟨t, tf⟩ := own_at hown (k := m) (by omega)
          have HM := Lib.hid hm
          have HO2 := Lib.hid hown
          clear HIN HOUT hm hown j3
          generalize xa0.getD (k + 1) zSection = x at *
          obtain ⟨y, hy⟩ : ∃ y, y = J.getD m zSection := ⟨_, rfl⟩
          rw [← hy] at HI HT t y3 y4 y5 y6
          have HY := Lib.hid hy
          clear hy
          obtain ⟨x2, x3⟩ := x
          obtain ⟨z0, z1⟩ := y
          obtain ⟨p2, p3⟩ := p
          obtain ⟨t0, t1⟩ := t
          obtain ⟨tf0, tf1⟩ := tf
          obtain ⟨d5, d6, d7, d8⟩ := hd
          simp only at p2 p3 t0 t1 d5 d6 d7 d8 y3 y4 y5 y6 HI HT
          have hz2 : w.heap.size ≤ (wr.alloc (.cells #[.int .i64 x2, .int .i64 x3] 58)).heap.size := by simp; omega
          have hne : g ≠ wr.heap.size := by omega
          have hne' : ¬ wr.heap.size = g := by omega
          have hcell0 := (((Below.refl wr.heap.size wr).alloc (Nat.le_refl _) (.cells #[.int .i64 x2, .int .i64 x3] 58)).cell (p := ⟨g, m * 2, none⟩) hg1).trans t0
          have hcell1 := (((Below.refl wr.heap.size wr).alloc (Nat.le_refl _) (.cells #[.int .i64 x2, .int .i64 x3] 58)).cell (p := ⟨g, m * 2 + 1, none⟩) hg1).trans t1
          have f1 := IntWalk.i64_in (z0 + x2) (by omega)
          by_cases hg : z1 = x3
          · have e1 : (z1 == x3) = true := by simp [hg]
            by_cases hs : z0 + x2 ≤ 10000
            · have HS := Lib.hid (HI hg hs)
              clear HI HT hg
              have H3 := fun nq => owns_below HO2.out (below_drewN ((Below.refl wr.heap.size wr).alloc (Nat.le_refl _) (.cells #[.int .i64 x2, .int .i64 x3] 58)) nq)
              go_wp2
              go_quiet (fail)
              go_wp2
              have c50 : ((wr.alloc (.cells #[.int .i64 x2, .int .i64 x3] 58)).drewN nq).cell? ⟨g, m * 2, none⟩ = some (.int .i64 z0) := hcell0
              have c51 : ((wr.alloc (.cells #[.int .i64 x2, .int .i64 x3] 58)).drewN nq).frozen? ⟨g, m * 2, none⟩ = false := (((Below.refl wr.heap.size wr).alloc (Nat.le_refl _) (.cells #[.int .i64 x2, .int .i64 x3] 58)).frozen (p := ⟨g, m * 2, none⟩) hg1).trans tf0
              have c52 : ((wr.alloc (.cells #[.int .i64 x2, .int .i64 x3] 58)).drewN nq).cell? ⟨wr.heap.size, 0, none⟩ = some (.int .i64 x2) := (World.cell?_alloc_new (w := wr) #[.int .i64 x2, .int .i64 x3] 58 0).trans rfl
              have d5 : Below w.heap.size w ((wr.alloc (.cells #[.int .i64 x2, .int .i64 x3] 58)).drewN nq) := (by repeat (first | assumption | exact Below.refl _ _ | (refine Below.setCell ?_ (by first | omega | (simp; done) | (simp; omega)) _) | apply below_drewN | apply Below.drew | (refine Below.alloc ?_ (by first | omega | (simp; done) | (simp; omega)) _)))
              have s5 : w.heap.size ≤ ((wr.alloc (.cells #[.int .i64 x2, .int .i64 x3] 58)).drewN nq).heap.size := by show _ ≤ (wr.alloc (.cells #[.int .i64 x2, .int .i64 x3] 58)).heap.size; exact hz2
              have h5 := H3 nq
              clear hcell0 hcell1 H3 t0 t1 hz2 p2 p3
              generalize (wr.alloc (.cells #[.int .i64 x2, .int .i64 x3] 58)).drewN nq = W5 at *
              go_still_tail 9, (by kernel_rfl)
              change wpList _ _ _ _ _ W5.drew
              go_wp2
              go_roundw
              case rel => exact ⟨k + 1, by omega, by go_num, (by repeat (first | assumption | exact Below.refl _ _ | (refine Below.setCell ?_ (by first | omega | (simp; done) | (simp; omega)) _) | apply below_drewN | apply Below.drew | (refine Below.alloc ?_ (by first | omega | (simp; done) | (simp; omega)) _))), by simpa [World.setCell] using s5, by
                rw [HS.out, List.length_set, HM.out]
                have h6 := own_set0 (owns_below h5 ((Below.refl W5.heap.size W5).drew)) (k := m) (by rw [HM.out]; omega) (z0 + x2)
                rw [← HY.out] at h6
                exact h6⟩
              case measure => simp [intOf]; omega
            · have HS := Lib.hid (HT (fun h => hs h.2))
              clear HI HT hg
              have H3 := fun nq => owns_below HO2.out (below_drewN ((Below.refl wr.heap.size wr).alloc (Nat.le_refl _) (.cells #[.int .i64 x2, .int .i64 x3] 58)) nq)
              go_wp2
              go_quiet (fail)
              go_wp2_with (at_builtin; refine wplApp1S rfl _ _ rfl _ _ (by simp) _ _ _ J x2 x3 rfl (H3 _) rfl (by omega) (by simp; omega) ?_; intro v1 w1 hown1 hb1 hz1)
              go_roundw
              case rel => exact ⟨k + 1, by omega, by go_num, (by repeat (first | assumption | exact Below.refl _ _ | (refine Below.trans ?_ (hb1.mono (by first | omega | (simp; done) | (simp; omega)))) | (refine Below.trans ?_ (hb.mono (by first | omega | (simp; done) | (simp; omega)))) | (refine Below.setCell ?_ (by first | omega | (simp; done) | (simp; omega)) _) | apply below_drewN | apply Below.drew | (refine Below.alloc ?_ (by first | omega | (simp; done) | (simp; omega)) _))), by simp at hz1; omega, by rw [HS.out, List.length_append, HM.out]; exact hown1⟩
              case measure => simp [intOf]; omega
          · have e1 : (z1 == x3) = false := by simp [hg]
            have HS := Lib.hid (HT (fun h => hg h.1))
            clear HI HT hg
            have H3 := fun nq => owns_below HO2.out (below_drewN ((Below.refl wr.heap.size wr).alloc (Nat.le_refl _) (.cells #[.int .i64 x2, .int .i64 x3] 58)) nq)
            go_wp2
            go_quiet (fail)
            go_wp2_with (at_builtin; refine wplApp1S rfl _ _ rfl _ _ (by simp) _ _ _ J x2 x3 rfl (H3 _) rfl (by omega) (by simp; omega) ?_; intro v1 w1 hown1 hb1 hz1)
            go_roundw
            case rel => exact ⟨k + 1, by omega, by go_num, (by repeat (first | assumption | exact Below.refl _ _ | (refine Below.trans ?_ (hb1.mono (by first | omega | (simp; done) | (simp; omega)))) | (refine Below.trans ?_ (hb.mono (by first | omega | (simp; done) | (simp; omega)))) | (refine Below.setCell ?_ (by first | omega | (simp; done) | (simp; omega)) _) | apply below_drewN | apply Below.drew | (refine Below.alloc ?_ (by first | omega | (simp; done) | (simp; omega)) _))), by simp at hz1; omega, by rw [HS.out, List.length_append, HM.out]; exact hown1⟩
            case measure => simp [intOf]; omega
        · obtain rfl : k = N := by omega
          obtain ⟨B, d, rfl, hw⟩ := own_wrSection hown
          go_wp2
          go_ret2
          exact ⟨B, d, rfl, hb, hw⟩
  · have e0 : r0_JoinSections xa0 = [] := by unfold r0_JoinSections; rw [hln, if_neg h]
    have e1 : r1_JoinSections xa0 = 1 := by unfold r1_JoinSections; rw [hln]; exact dcode_bad h
    rw [e0, e1]
    have HC := Lib.hid (dcode_bad (P := True) h)
    clear e0 e1 h
    go_enter Try.func44, Try.ntmps44
    go_wp2_with (first | (go_at_call 57; refine (dikeCode_t _ _ _ xa0 _ (True) _ ha0 ((RA.out.below (by repeat (first | assumption | exact Below.refl _ _ | (refine Below.setCell ?_ (by first | omega | (simp; done) | (simp; omega)) _) | apply below_drewN | apply Below.drew | (refine Below.alloc ?_ (by first | omega | (simp; done) | (simp; omega)) _)))).mono (by first | omega | (simp; done) | (simp; omega))) (fun _ => by simp) _ HC.out).mono ?_; rintro ed W2 ⟨rfl, b2⟩; have s2 : w.heap.size ≤ W2.heap.size := (by have := b2.size; (try simp at this); omega); have d2 : Below w.heap.size w W2 := (by repeat (first | assumption | exact Below.refl _ _ | (refine Below.trans ?_ (b2.mono (by first | omega | (simp; done) | (simp; omega)))) | (refine Below.setCell ?_ (by first | omega | (simp; done) | (simp; omega)) _) | apply below_drewN | apply Below.drew | (refine Below.alloc ?_ (by first | omega | (simp; done) | (simp; omega)) _)))))
    go_ret2
    exact ⟨none, 0, rfl, (by repeat (first | assumption | exact Below.refl _ _ | (refine Below.trans ?_ (b2.mono (by first | omega | (simp; done) | (simp; omega)))) | (refine Below.setCell ?_ (by first | omega | (simp; done) | (simp; omega)) _) | apply below_drewN | apply Below.drew | (refine Below.alloc ?_ (by first | omega | (simp; done) | (simp; omega)) _))), rfl, fun h => absurd h (by simp)⟩

set_option maxRecDepth 100000 in
set_option maxHeartbeats 800000 in
theorem specC_JoinSections (a0 : Option Addr) (la0 ca0 : Nat) (xa0 : List RSection) (w : World) (ha0 : la0 ≤ 1048576) (ra0 : Rd_Section w w.heap.size a0 la0 xa0) (fa0 : Wf_Section xa0) (ka0 : la0 ≤ ca0) :
    Calls Try.prog 43 #[.slice a0 la0 ca0] w fun e w' => ∃ B0 dB0, e = .returned (.tuple #[.slice B0 (r0_JoinSections xa0).length dB0, .int .i64 (r1_JoinSections xa0)]) ∧ Below w.heap.size w w' ∧ Wr_Section w' w.heap.size B0 (r0_JoinSections xa0).length (r0_JoinSections xa0) := by
  have hln := ra0.len
  have RA := Lib.hid ra0
  clear ra0
  clear fa0 ka0
  by_cases h : DkOk la0 xa0
  · have e0 : r0_JoinSections xa0 = jnN xa0 la0 := by unfold r0_JoinSections; rw [hln, if_pos h]
    have e1 : r1_JoinSections xa0 = 0 := by unfold r1_JoinSections; rw [hln]; exact dcode_ok h trivial
    rw [e0, e1]
    have HV := Lib.hid h
    have h30 := h.2.2
    obtain ⟨ab, o, rfl, hbB, hc⟩ := RA.out.at (by have := h.2.1; omega)
    clear e0 e1 h hc
    go_enter Try.func43, Try.ntmps43
    go_wp2_with (first | (go_at_call 50; refine (l07Ok_any _ _ _ xa0 _ ha0 RA.out true ⟨fun _ => HV.out, fun _ => rfl⟩).mono ?_; rintro eo wo ⟨rfl, rfl⟩))
    go_loopw [4, 5, 6, 7] (fun v i _ _ wr => ∃ k : Nat, k ≤ la0 ∧ i = .int .i64 (k : Int) ∧ Below w.heap.size w wr ∧ w.heap.size ≤ wr.heap.size ∧ wr.ownsRow w.heap.size 58 2 v (jnN xa0 k).length (csSection (jnN xa0 k))) (fun _ i _ _ _ => la0 - (intOf i).toNat)
    case atStart => exact ⟨0, by omega, rfl, (by repeat (first | assumption | exact Below.refl _ _ | (refine Below.setCell ?_ (by first | omega | (simp; done) | (simp; omega)) _) | apply below_drewN | apply Below.drew | (refine Below.alloc ?_ (by first | omega | (simp; done) | (simp; omega)) _))), by simp, ownsR_made rfl (Nat.le_refl _)⟩
    case round =>
      obtain ⟨k, hk, rfl, hb, hz, hown⟩ := hrel
      by_cases hlt : k < la0
      · obtain ⟨p, _⟩ := (RA.out.below hb).at' (k := k) hlt
        have hd := HV.out.1 k hlt
        obtain ⟨j1, j2, j3, j4⟩ := jn_facts HV.out k (by omega)
        have HIN := Lib.hid (fun m hl => jnN_in (xs := xa0) (k := k) (m := m) hl)
        have HOUT := Lib.hid (fun m hl => jnN_out (xs := xa0) (k := k) (m := m) hl)
        have HNIL := Lib.hid (fun hl => jnN_nil (xs := xa0) (k := k) hl)
        obtain ⟨J, hJ⟩ : ∃ J, J = jnN xa0 k := ⟨_, rfl⟩
        rw [← hJ] at hown j1 j3 HIN HOUT HNIL
        clear hJ j2 j4
        rcases Nat.eq_zero_or_pos J.length with hj0 | hj0
        · have HS := Lib.hid (HNIL.out hj0)
          have HM := Lib.hid hj0
          obtain ⟨A', c', rfl, _⟩ := own_wrSection hown
          rw [hj0] at hown
          have HO2 := Lib.hid hown
          clear HIN HOUT HNIL hown j3
          generalize xa0.getD k zSection = x at *
          obtain ⟨x2, x3⟩ := x
          obtain ⟨p2, p3⟩ := p
          simp only at p2 p3
          rw [hj0] at j1
          have hjj : (J.length : Int) = 0 := by omega
          go_wp2
          go_quiet (fail)
          go_wp2_with (at_builtin; refine wplApp1S rfl _ _ rfl _ _ rfl _ _ _ J x2 x3 rfl (owns_below HO2.out (below_drewN (Below.refl _ _) nq)) rfl (by omega) (by exact hz) ?_; intro v1 w1 hown1 hb1 hz1)
          go_roundw
          case rel => exact ⟨k + 1, by omega, by go_num, (below_drewN hb nq).trans hb1, Nat.le_trans hz hz1, by rw [HS.out, List.length_append, HM.out]; exact hown1⟩
          case measure => simp [intOf]; omega
        · obtain ⟨m, hm⟩ : ∃ m, J.length = m + 1 := ⟨J.length - 1, by omega⟩
          have HI := HIN.out m hm
          have HT := HOUT.out m hm
          obtain ⟨y3, y4, y5, y6⟩ := j3 m (by omega)
          rw [hm] at hown j1
          obtain ⟨g, cap, rfl, hg0, hg1, hcap⟩ := own_form' hown (by omega)
          obtain ⟨t, tf⟩ := own_at hown (k := m) (by omega)
          have HM := Lib.hid hm
          have HO2 := Lib.hid hown
          clear HIN HOUT HNIL hm hown j3 hj0
          generalize xa0.getD k zSection = x at *
          obtain ⟨y, hy⟩ : ∃ y, y = J.getD m zSection := ⟨_, rfl⟩
          rw [← hy] at HI HT t y3 y4 y5 y6
          clear hy
          obtain ⟨x2, x3⟩ := x
          obtain ⟨z0, z1⟩ := y
          obtain ⟨p2, p3⟩ := p
          obtain ⟨t0, t1⟩ := t
          obtain ⟨tf0, tf1⟩ := tf
          obtain ⟨d5, d6, d7, d8⟩ := hd
          simp only at p2 p3 t0 t1 d5 d6 d7 d8 y3 y4 y5 y6 HI HT
          have hab : ab < wr.heap.size := by omega
          have f1 := IntWalk.i64_in (z0 + x2) (by omega)
          by_cases hg : z1 = x3
          · have e1 : (z1 == x3) = true := by simp [hg]
            by_cases hs : z0 + x2 ≤ 10000
            · have HS := Lib.hid (HI hg hs)
              clear HI HT hg
              go_wp2
              go_quiet (fail)
              have t0 : (wr.drewN nq).cell? ⟨g, m * 2, none⟩ = some (.int .i64 z0) := t0
              have t1 : (wr.drewN nq).cell? ⟨g, m * 2 + 1, none⟩ = some (.int .i64 z1) := t1
              have tf0 : (wr.drewN nq).frozen? ⟨g, m * 2, none⟩ = false := tf0
              have tf1 : (wr.drewN nq).frozen? ⟨g, m * 2 + 1, none⟩ = false := tf1
              have p2 : (wr.drewN nq).cell? ⟨ab, o + k * 2, none⟩ = some (.int .i64 x2) := p2
              have hbq : Below w.heap.size w (wr.drewN nq) := below_drewN hb nq
              have hzq : w.heap.size ≤ (wr.drewN nq).heap.size := hz
              have hgq : g < (wr.drewN nq).heap.size := hg1
              have habq : ab < (wr.drewN nq).heap.size := hab
              have hoq := owns_below HO2.out (below_drewN (Below.refl wr.heap.size wr) nq)
              generalize wr.drewN nq = W4 at *
              go_wp2
              have bq := (Below.refl W4.heap.size W4).alloc (Nat.le_refl _) (.cells #[.int .i64 z0, .int .i64 z1] 58)
              have c50 : (W4.alloc (.cells #[.int .i64 z0, .int .i64 z1] 58)).cell? ⟨g, m * 2, none⟩ = some (.int .i64 z0) := (bq.cell (p := ⟨g, m * 2, none⟩) hgq).trans t0
              have c51 : (W4.alloc (.cells #[.int .i64 z0, .int .i64 z1] 58)).cell? ⟨g, m * 2 + 1, none⟩ = some (.int .i64 z1) := (bq.cell (p := ⟨g, m * 2 + 1, none⟩) hgq).trans t1
              have f50 : (W4.alloc (.cells #[.int .i64 z0, .int .i64 z1] 58)).frozen? ⟨g, m * 2, none⟩ = false := (bq.frozen (p := ⟨g, m * 2, none⟩) hgq).trans tf0
              have f51 : (W4.alloc (.cells #[.int .i64 z0, .int .i64 z1] 58)).frozen? ⟨g, m * 2 + 1, none⟩ = false := (bq.frozen (p := ⟨g, m * 2 + 1, none⟩) hgq).trans tf1
              have c60 : (W4.alloc (.cells #[.int .i64 z0, .int .i64 z1] 58)).cell? ⟨W4.heap.size, 0, none⟩ = some (.int .i64 z0) := (World.cell?_alloc_new (w := W4) #[.int .i64 z0, .int .i64 z1] 58 0).trans rfl
              have c61 : (W4.alloc (.cells #[.int .i64 z0, .int .i64 z1] 58)).cell? ⟨W4.heap.size, 1, none⟩ = some (.int .i64 z1) := (World.cell?_alloc_new (w := W4) #[.int .i64 z0, .int .i64 z1] 58 1).trans rfl
              have f60 : (W4.alloc (.cells #[.int .i64 z0, .int .i64 z1] 58)).frozen? ⟨W4.heap.size, 0, none⟩ = false := frozen_of_row (heap_alloc_new W4 _) 0
              have c70 : (W4.alloc (.cells #[.int .i64 z0, .int .i64 z1] 58)).cell? ⟨ab, o + k * 2, none⟩ = some (.int .i64 x2) := (bq.cell (p := ⟨ab, o + k * 2, none⟩) habq).trans p2
              have d5 : Below w.heap.size w (W4.alloc (.cells #[.int .i64 z0, .int .i64 z1] 58)) := hbq.trans (bq.mono hzq)
              have s5 : w.heap.size ≤ (W4.alloc (.cells #[.int .i64 z0, .int .i64 z1] 58)).heap.size := by simp; omega
              have h5 := owns_below hoq bq
              have hne : ¬ g = W4.heap.size := by omega
              have hne' : ¬ W4.heap.size = g := by omega
              have hlq := bq.size
              clear t0 t1 tf0 tf1 p2 hoq bq
              generalize W4.alloc (.cells #[.int .i64 z0, .int .i64 z1] 58) = W5 at *
              go_still_tail 9, (by kernel_rfl)
              change wpList _ _ _ _ _ W5.drew
              go_wp2
              go_roundw
              case rel => exact ⟨k + 1, by omega, by go_num, (by repeat (first | assumption | exact Below.refl _ _ | (refine Below.setCell ?_ (by first | omega | (simp; done) | (simp; omega)) _) | apply below_drewN | apply Below.drew | (refine Below.alloc ?_ (by first | omega | (simp; done) | (simp; omega)) _))), by simpa [World.setCell] using s5, by
                rw [HS.out, List.length_set, HM.out]
                have h6 := own_put (ownsRow_setCell_other (owns_below h5 ((Below.refl W5.heap.size W5).drew)) (a := ⟨W4.heap.size, 0, none⟩) (by intro hx; injection hx with hx; exact hne hx) (.int .i64 (z0 + x2))) (k := m) (by rw [HM.out]; omega) (z0 + x2) z1
                exact h6⟩
              case measure => simp [intOf]; omega
            · have HS := Lib.hid (HT (fun h => hs h.2))
              clear HI HT hg
              go_wp2
              go_quiet (fail)
              go_wp2_with (at_builtin; refine wplApp1S rfl _ _ rfl _ _ rfl _ _ _ J x2 x3 rfl (owns_below HO2.out (below_drewN (Below.refl _ _) nq)) rfl (by omega) (by exact hz) ?_; intro v1 w1 hown1 hb1 hz1)
              go_roundw
              case rel => exact ⟨k + 1, by omega, by go_num, (below_drewN hb nq).trans hb1, Nat.le_trans hz hz1, by rw [HS.out, List.length_append, HM.out]; exact hown1⟩
              case measure => simp [intOf]; omega
          · have e1 : (z1 == x3) = false := by simp [hg]
            have HS := Lib.hid (HT (fun h => hg h.1))
            clear HI HT hg
            go_wp2
            go_quiet (fail)
            go_wp2_with (at_builtin; refine wplApp1S rfl _ _ rfl _ _ rfl _ _ _ J x2 x3 rfl (owns_below HO2.out (below_drewN (Below.refl _ _) nq)) rfl (by omega) (by exact hz) ?_; intro v1 w1 hown1 hb1 hz1)
            go_roundw
            case rel => exact ⟨k + 1, by omega, by go_num, (below_drewN hb nq).trans hb1, Nat.le_trans hz hz1, by rw [HS.out, List.length_append, HM.out]; exact hown1⟩
            case measure => simp [intOf]; omega
      · obtain rfl : k = la0 := by omega
        obtain ⟨B, d, rfl, hw⟩ := own_wrSection hown
        go_wp2
        go_ret2
        exact ⟨B, d, rfl, hb, hw⟩
  · have e0 : r0_JoinSections xa0 = [] := by unfold r0_JoinSections; rw [hln, if_neg h]
    have e1 : r1_JoinSections xa0 = 1 := by unfold r1_JoinSections; rw [hln]; exact dcode_bad h
    rw [e0, e1]
    have HV := Lib.hid h
    clear e0 e1 h
    go_enter Try.func43, Try.ntmps43
    go_wp2_with (first | (go_at_call 50; refine (l07Ok_any _ _ _ xa0 _ ha0 RA.out false ⟨fun h => by simp at h, fun h => absurd h HV.out⟩).mono ?_; rintro eo wo ⟨rfl, rfl⟩))
    go_ret2
    exact ⟨none, 0, rfl, Below.refl _ _, rfl, fun h => absurd h (by simp)⟩

end Go.Proofs.Ytagnhlcgfcppjaa
