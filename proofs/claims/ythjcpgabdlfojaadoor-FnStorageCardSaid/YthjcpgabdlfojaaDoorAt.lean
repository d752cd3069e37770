/- A drawn level of a curve. -/
import Derived.Test.YthjcpgabdlfojaaDoorDraw6
import Derived.Test.YthjcpgabdlfojaaDoorIn
import Derived.Deep.RegionHeld3
namespace Go.Proofs.YthjcpgabdlfojaaDoor
open Go.RowKit

set_option maxHeartbeats 400000 in
theorem lv_t (x : Int) (w : World) (h : -2000 ≤ x ∧ x ≤ 2000) : Calls Tryd.prog 77 #[.int .i64 x] w fun e w' => e = .returned (.bool true) ∧ w = w' := by
  go_enter Tryd.func77, Tryd.ntmps77
  go_wp2_with (first | (go_at_call 48; first | (refine (in_t _ _ _ _ (by omega)).mono ?_; rintro e w' ⟨rfl, rfl⟩) | (refine (in_f _ _ _ _ (by omega)).mono ?_; rintro e w' ⟨rfl, rfl⟩)))
  go_ret
  exact ⟨rfl, rfl⟩

set_option maxHeartbeats 400000 in
theorem lv_f (x : Int) (w : World) (h : ¬ (-2000 ≤ x ∧ x ≤ 2000)) : Calls Tryd.prog 77 #[.int .i64 x] w fun e w' => e = .returned (.bool false) ∧ w = w' := by
  have h' : x < -2000 ∨ 2000 < x := by omega
  clear h
  go_enter Tryd.func77, Tryd.ntmps77
  go_wp2_with (first | (go_at_call 48; first | (refine (in_t _ _ _ _ (by omega)).mono ?_; rintro e w' ⟨rfl, rfl⟩) | (refine (in_f _ _ _ _ (by omega)).mono ?_; rintro e w' ⟨rfl, rfl⟩)))
  go_ret
  exact ⟨rfl, rfl⟩

set_option maxHeartbeats 400000 in
theorem max1_t (a b : Int) (w : World) : Calls Tryd.prog 78 #[.int .i64 a, .int .i64 b] w fun e w' => e = .returned (.int .i64 (max a b)) ∧ w = w' := by
  by_cases h : a > b
  · rw [show max a b = a by omega]
    go_enter Tryd.func78, Tryd.ntmps78
    go_wp2
    go_ret
    exact ⟨rfl, rfl⟩
  · rw [show max a b = b by omega]
    go_enter Tryd.func78, Tryd.ntmps78
    go_wp2
    go_ret
    exact ⟨rfl, rfl⟩

set_option maxRecDepth 100000 in
set_option maxHeartbeats 6400000 in
theorem l05At_t (b n k O : Nat) (A0 : Option Addr) (m0 c0 : Nat) (v1 : Value) (ls : List Int) (w : World) (h : Src w b n k) (hn : n ≤ 1048576) (hk : k ≤ 1000000) (hbox : Box2 w O (.slice A0 m0 c0) v1) (hO : O ≠ b) (ha : Rd w w.heap.size A0 m0 ls) (hm : m0 ≤ 13) (hab : 0 < m0 → ablk A0 ≠ some b) (hf : Wf ls) :
    Calls Tryd.prog 50 #[.pointer (some ⟨b, 0, none⟩), .pointer (some ⟨O, 0, none⟩)] w fun e w' => ∃ (y : Int) (k' : Nat), e = .returned (.int .i64 y) ∧ (Lit.int .i64 y).wf = true ∧ Src w' b n k' ∧ k' ≤ k + 20 ∧ w.grownBy w' (some b) := by
  have H := Lib.hid h
  have x0 := hbox.c0
  by_cases hm0 : m0 = 0
  · subst hm0
    clear h hbox ha hab
    go_enter Tryd.func50, Tryd.ntmps50
    go_wp2_with fail
    refine (l02Bent_t b n k _ H.out hn (by omega)).mono ?_
    rintro e1 W1 ⟨y, k1, rfl, wy, S1, q1, g1⟩
    have S1' := Lib.hid S1
    have WY := Lib.hid wy
    clear S1 wy
    go_wp2
    go_ret
    exact ⟨y, k1, rfl, WY.out, S1'.out, by omega, g1⟩
  · have hz : ¬ (m0 : Int) = 0 := by omega
    have HB := Lib.hid hbox
    have HA := Lib.hid ha
    have HAB := Lib.hid hab
    obtain ⟨cb, off, rfl, _, hc⟩ := ha.2 (by omega)
    obtain ⟨lo, elo⟩ : ∃ x, x = ls.getD 0 0 := ⟨_, rfl⟩
    obtain ⟨hi, ehi⟩ : ∃ x, x = ls.getD (m0 - 1) 0 := ⟨_, rfl⟩
    have ELO := Lib.hid elo
    have EHI := Lib.hid ehi
    have hln := ha.1
    have wlo : (Lit.int .i64 lo).wf = true := by rw [elo, List.getD_eq_getElem?_getD, List.getElem?_eq_getElem (show 0 < ls.length by omega)]; exact hf _ (List.getElem_mem _)
    have whi : (Lit.int .i64 hi).wf = true := by rw [ehi, List.getD_eq_getElem?_getD, List.getElem?_eq_getElem (show m0 - 1 < ls.length by omega)]; exact hf _ (List.getElem_mem _)
    have WLO := Lib.hid wlo
    have WHI := Lib.hid whi
    clear h hbox ha hab hc elo ehi wlo whi hf
    go_enter Tryd.func50, Tryd.ntmps50
    go_wp2_with fail
    refine (one_t b n k 12 _ H.out hn (by omega) (by omega)).mono ?_
    rintro e1 W1 ⟨r1, k1, rfl, S1, q1, g1⟩
    have S1' := Lib.hid S1
    have G1 := Lib.hid g1
    cases r1
    · obtain ⟨_, _, e, _, hc⟩ := (HA.out.grown (Nat.le_refl _) g1 (fun hm => HAB.out hm)).2 (by omega)
      injection e with e
      injection e with e1 e2
      subst e1
      subst e2
      have y0 := (HB.out.grown g1 (by simp [hO])).c0
      have t0 := hc 0 (by omega)
      have t9 := hc (m0 - 1) (by omega)
      rw [← ELO.out, Nat.add_zero] at t0
      rw [← EHI.out] at t9
      have i1 : (m0 : Int) - 1 < (m0 : Int) := by omega
      have i0 : (0 : Int) ≤ (m0 : Int) - 1 := by omega
      have i2 : m0 - 1 < m0 := by omega
      have i3 : 0 < m0 := by omega
      have i4 : (0 : Int) < (m0 : Int) := by omega
      clear hc S1 g1 x0
      by_cases hl : -2000 ≤ lo ∧ lo ≤ 2000
      · by_cases hh : -2000 ≤ hi ∧ hi ≤ 2000
        · go_wp2
          go_quiet (fail)
          have SQ := Lib.hid (S1'.out.drewN nq)
          have GQ := Lib.hid (gb_drewN G1.out nq)
          generalize W1.drewN nq = V1 at SQ GQ ⊢
          go_wp2_with (first | (go_at_call 77; first | (refine (lv_t _ _ (by omega)).mono ?_; rintro e w' ⟨rfl, rfl⟩) | (refine (lv_f _ _ (by omega)).mono ?_; rintro e w' ⟨rfl, rfl⟩)))
          refine (one_t b n k1 10 _ SQ.out hn (by omega) (by omega)).mono ?_
          rintro e2 W2 ⟨r2, k2, rfl, S2, q2, g2⟩
          have S2' := Lib.hid S2
          have G2 := Lib.hid g2
          clear S2 g2
          cases r2
          · go_wp2_with (first | (go_at_call 78; refine (max1_t _ _ _).mono ?_; rintro e w' ⟨rfl, rfl⟩))
            have hp : max 1 (hi - lo + 1) ≤ 4001 := by omega
            have hp1 : 1 ≤ max 1 (hi - lo + 1) := by omega
            generalize max 1 (hi - lo + 1) = mx at hp hp1 ⊢
            refine (pick_t b n k2 mx _ S2'.out hn (by omega) (by omega)).mono ?_
            rintro e3 W3 ⟨r3, k3, rfl, q30, q31, q32, S3, q33, g3⟩
            have q34 : r3 < mx := q31 (by omega)
            have S3' := Lib.hid S3
            clear S3 q31 q32
            go_wp2
            go_ret
            exact ⟨_, k3, rfl, WalkArith.wf_i64 (by omega), S3'.out, by omega, (GQ.out.trans G2.out).trans g3⟩
          · have HR := Lib.hid (rd_lit W2 2 [lo, hi, 0] 3)
            have hbb := S2'.out.bs
            go_wp2_with fail
            refine (among_t b n k2 _ _ _ [lo, hi, 0] _ (S2'.out.alloc _) hn (by omega) (by omega) (by omega) (by have := HR.out; exact this.mono (by simp)) (by simp [ablk]; omega)).mono ?_
            rintro e3 W3 ⟨r3, k3, rfl, q3, S3, q33, g3⟩
            have S3' := Lib.hid S3
            have HQ := Lib.hid q3
            clear S3 q3
            go_wp2
            go_ret
            refine ⟨_, k3, rfl, ?_, S3'.out, by omega, (GQ.out.trans G2.out).trans ((gb_alloc W2 _ _).trans g3)⟩
            have := HQ.out
            simp at this
            rcases this with rfl | rfl | rfl
            · exact WLO.out
            · exact WHI.out
            · exact WalkArith.wf_i64 (by omega)
        · have HR := Lib.hid (fun X : World => rd_lit X 2 [lo, hi, 0] 3)
          have hbb := S1'.out.bs
          go_wp2
          go_quiet (fail)
          have SQ := Lib.hid (S1'.out.drewN nq)
          have GQ := Lib.hid (gb_drewN G1.out nq)
          generalize W1.drewN nq = V1 at SQ GQ ⊢
          go_wp2_with (first | (go_at_call 77; first | (refine (lv_t _ _ (by omega)).mono ?_; rintro e w' ⟨rfl, rfl⟩) | (refine (lv_f _ _ (by omega)).mono ?_; rintro e w' ⟨rfl, rfl⟩)))
          refine (among_t b n k1 _ _ _ [lo, hi, 0] _ (SQ.out.alloc _) hn (by omega) (by omega) (by omega) (by have := HR.out V1; exact this.mono (by simp)) (by have := SQ.out.bs; simp [ablk]; omega)).mono ?_
          rintro e3 W3 ⟨r3, k3, rfl, q3, S3, q33, g3⟩
          have S3' := Lib.hid S3
          have HQ := Lib.hid q3
          clear S3 q3
          go_wp2
          go_ret
          refine ⟨_, k3, rfl, ?_, S3'.out, by omega, GQ.out.trans ((gb_alloc V1 _ _).trans g3)⟩
          have := HQ.out
          simp at this
          rcases this with rfl | rfl | rfl
          · exact WLO.out
          · exact WHI.out
          · exact WalkArith.wf_i64 (by omega)
      · have HR := Lib.hid (fun X : World => rd_lit X 2 [lo, hi, 0] 3)
        have hbb := S1'.out.bs
        go_wp2
        go_quiet (fail)
        have SQ := Lib.hid (S1'.out.drewN nq)
        have GQ := Lib.hid (gb_drewN G1.out nq)
        generalize W1.drewN nq = V1 at SQ GQ ⊢
        go_wp2_with (first | (go_at_call 77; first | (refine (lv_t _ _ (by omega)).mono ?_; rintro e w' ⟨rfl, rfl⟩) | (refine (lv_f _ _ (by omega)).mono ?_; rintro e w' ⟨rfl, rfl⟩)))
        refine (among_t b n k1 _ _ _ [lo, hi, 0] _ (SQ.out.alloc _) hn (by omega) (by omega) (by omega) (by have := HR.out V1; exact this.mono (by simp)) (by have := SQ.out.bs; simp [ablk]; omega)).mono ?_
        rintro e3 W3 ⟨r3, k3, rfl, q3, S3, q33, g3⟩
        have S3' := Lib.hid S3
        have HQ := Lib.hid q3
        clear S3 q3
        go_wp2
        go_ret
        refine ⟨_, k3, rfl, ?_, S3'.out, by omega, GQ.out.trans ((gb_alloc V1 _ _).trans g3)⟩
        have := HQ.out
        simp at this
        rcases this with rfl | rfl | rfl
        · exact WLO.out
        · exact WHI.out
        · exact WalkArith.wf_i64 (by omega)
    · clear S1 g1
      go_wp2_with fail
      refine (l02Bent_t b n k1 _ S1'.out hn (by omega)).mono ?_
      rintro e2 W2 ⟨y, k2, rfl, wy, S2, q2, g2⟩
      have S2' := Lib.hid S2
      have WY := Lib.hid wy
      clear S2 wy
      go_wp2
      go_ret
      exact ⟨y, k2, rfl, WY.out, S2'.out, by omega, G1.out.trans g2⟩

end Go.Proofs.YthjcpgabdlfojaaDoor
