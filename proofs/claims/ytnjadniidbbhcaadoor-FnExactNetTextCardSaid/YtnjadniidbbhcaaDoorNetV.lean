/- Contracts: whether a net is valid; its codes. -/
import Derived.Test.YtnjadniidbbhcaaDoorSNet
import Derived.Test.YtnjadniidbbhcaaDoorNetP
import Derived.Test.YtnjadniidbbhcaaDoorIn
namespace Go.Proofs.YtnjadniidbbhcaaDoor
open Go.RowKit

/-- a net lies in block b -/
structure NetAt (w : World) (b : Nat) (J : Int) (A : Option Addr) (n k : Nat) : Prop where
  c0 : w.cell? ⟨b, 0, none⟩ = some (.int .i64 J)
  c1 : w.cell? ⟨b, 1, none⟩ = some (.slice A n k)
theorem NetAt.below {w w' : World} {b B : Nat} {J : Int} {A : Option Addr} {n k : Nat} (h : NetAt w b J A n k) (hb : Below B w w') (hB : b < B) : NetAt w' b J A n k :=
  ⟨(hb.cell (p := ⟨b, 0, none⟩) hB).trans h.c0, (hb.cell (p := ⟨b, 1, none⟩) hB).trans h.c1⟩

theorem dok_ff {J x0 x1 x2 : Int} {v : Bool} (hv : v = decide (DOk J ⟨x0, x1, x2⟩)) (h : ¬ DOk J ⟨x0, x1, x2⟩) : v = false := by rw [hv]; exact decide_eq_false h

set_option maxHeartbeats 800000 in
theorem l04One_any (x0 x1 x2 J : Int) (w : World) (hJ : 2 ≤ J ∧ J ≤ 10) (v : Bool) (hv : v = decide (DOk J ⟨x0, x1, x2⟩)) :
    Calls Tryd.prog 50 #[.agg #[.int .i64 x0, .int .i64 x1, .int .i64 x2], .int .i64 J] w fun e w' => e = .returned (.bool v) ∧ Below w.heap.size w w' := by
  obtain ⟨j1, j2⟩ := hJ
  by_cases h0 : 0 ≤ x0 ∧ x0 ≤ J - 1
  · by_cases h1 : 0 ≤ x1 ∧ x1 ≤ J - 1
    · by_cases h3 : x0 = x1
      · obtain rfl : v = false := dok_ff hv (fun h => h.2.2.1 h3)
        have e3 : (x0 != x1) = false := by simp [h3]
        have H3 := Lib.hid h3
        clear hv h3
        go_enter Tryd.func50, Tryd.ntmps50
        go_wp2_with (first | (go_at_call 43; first | (refine (in_t _ _ _ _ (by omega)).mono ?_; rintro e w' ⟨rfl, rfl⟩) | (refine (in_f _ _ _ _ (by omega)).mono ?_; rintro e w' ⟨rfl, rfl⟩)))
        go_ret
        exact ⟨rfl, (by repeat (first | assumption | exact Below.refl _ _ | (refine Below.setCell ?_ (by first | omega | (simp; done) | (simp; omega)) _) | apply below_drewN | apply Below.drew | (refine Below.alloc ?_ (by first | omega | (simp; done) | (simp; omega)) _)))⟩
      · have e3 : (x0 != x1) = true := by simp [h3]
        by_cases h2 : 0 ≤ x2 ∧ x2 ≤ 1000
        · obtain rfl : v = true := by rw [hv]; exact decide_eq_true ⟨h0, h1, h3, h2⟩
          clear hv h3
          go_enter Tryd.func50, Tryd.ntmps50
          go_wp2_with (first | (go_at_call 43; first | (refine (in_t _ _ _ _ (by omega)).mono ?_; rintro e w' ⟨rfl, rfl⟩) | (refine (in_f _ _ _ _ (by omega)).mono ?_; rintro e w' ⟨rfl, rfl⟩)))
          go_ret
          exact ⟨rfl, (by repeat (first | assumption | exact Below.refl _ _ | (refine Below.setCell ?_ (by first | omega | (simp; done) | (simp; omega)) _) | apply below_drewN | apply Below.drew | (refine Below.alloc ?_ (by first | omega | (simp; done) | (simp; omega)) _)))⟩
        · obtain rfl : v = false := dok_ff hv (fun h => h2 h.2.2.2)
          clear hv h3
          go_enter Tryd.func50, Tryd.ntmps50
          go_wp2_with (first | (go_at_call 43; first | (refine (in_t _ _ _ _ (by omega)).mono ?_; rintro e w' ⟨rfl, rfl⟩) | (refine (in_f _ _ _ _ (by omega)).mono ?_; rintro e w' ⟨rfl, rfl⟩)))
          go_ret
          exact ⟨rfl, (by repeat (first | assumption | exact Below.refl _ _ | (refine Below.setCell ?_ (by first | omega | (simp; done) | (simp; omega)) _) | apply below_drewN | apply Below.drew | (refine Below.alloc ?_ (by first | omega | (simp; done) | (simp; omega)) _)))⟩
    · obtain rfl : v = false := dok_ff hv (fun h => h1 h.2.1)
      clear hv
      go_enter Tryd.func50, Tryd.ntmps50
      go_wp2_with (first | (go_at_call 43; first | (refine (in_t _ _ _ _ (by omega)).mono ?_; rintro e w' ⟨rfl, rfl⟩) | (refine (in_f _ _ _ _ (by omega)).mono ?_; rintro e w' ⟨rfl, rfl⟩)))
      go_ret
      exact ⟨rfl, (by repeat (first | assumption | exact Below.refl _ _ | (refine Below.setCell ?_ (by first | omega | (simp; done) | (simp; omega)) _) | apply below_drewN | apply Below.drew | (refine Below.alloc ?_ (by first | omega | (simp; done) | (simp; omega)) _)))⟩
  · obtain rfl : v = false := dok_ff hv (fun h => h0 h.1)
    clear hv
    go_enter Tryd.func50, Tryd.ntmps50
    go_wp2_with (first | (go_at_call 43; first | (refine (in_t _ _ _ _ (by omega)).mono ?_; rintro e w' ⟨rfl, rfl⟩) | (refine (in_f _ _ _ _ (by omega)).mono ?_; rintro e w' ⟨rfl, rfl⟩)))
    go_ret
    exact ⟨rfl, (by repeat (first | assumption | exact Below.refl _ _ | (refine Below.setCell ?_ (by first | omega | (simp; done) | (simp; omega)) _) | apply below_drewN | apply Below.drew | (refine Below.alloc ?_ (by first | omega | (simp; done) | (simp; omega)) _)))⟩

theorem getZ (xs : List RDitch) (k : Nat) : ∃ x, x = xs.getD k zDitch := ⟨_, rfl⟩

set_option maxHeartbeats 1600000 in
theorem l04Ok_any (b : Nat) (J : Int) (A : Option Addr) (n k : Nat) (xs : List RDitch) (w : World) (hb0 : b < w.heap.size) (hn : n ≤ 1048576) (hl : NetAt w b J A n k) (ha : Rd_Ditch w w.heap.size A n xs) (ok : Bool) (hok : ok = true ↔ NetOk J xs) :
    Calls Tryd.prog 27 #[.pointer (some ⟨b, 0, none⟩)] w fun e w' => e = .returned (.bool ok) ∧ Below w.heap.size w w' := by
  have hln := ha.len
  have HA := Lib.hid ha
  have HK := Lib.hid hok
  have HL := Lib.hid hl
  have HLN := Lib.hid hln
  obtain ⟨c0, c1⟩ := hl
  clear ha hok hln
  by_cases h1 : 2 ≤ J ∧ J ≤ 10
  · go_enter Tryd.func27, Tryd.ntmps27
    go_wp2_with (first | (go_at_call 43; first | (refine (in_t _ _ _ _ (by omega)).mono ?_; rintro e w' ⟨rfl, rfl⟩) | (refine (in_f _ _ _ _ (by omega)).mono ?_; rintro e w' ⟨rfl, rfl⟩)))
    go_loopw [3] (fun i wr => ∃ q : Nat, q ≤ n ∧ i = .int .i64 (q : Int) ∧ Below w.heap.size w wr ∧ Hid (∀ j, j < q → DOk J (xs.getD j zDitch))) (fun i _ => n - (intOf i).toNat)
    case atStart => exact ⟨0, by omega, rfl, Below.refl _ _, fun j hj => absurd hj (by omega)⟩
    case round =>
      obtain ⟨q, hq, rfl, hb, hr⟩ := hrel
      obtain ⟨d0, d1⟩ := HL.out.below hb hb0
      have hsz := hb.size
      have hb1 : b < wr.heap.size := by omega
      by_cases hlt : q < n
      · obtain ⟨ab, o, rfl, hB, hc⟩ := (HA.out.below hb).at (by omega)
        have p := hc q hlt
        clear hc
        obtain ⟨x, hx⟩ := getZ xs q
        rw [← hx] at p
        have HX := Lib.hid hx
        clear hx
        obtain ⟨y0, y1, y2⟩ := x
        obtain ⟨p0, p1, p2⟩ := p
        simp only at p0 p1 p2
        have hb2 : ab < wr.heap.size := by omega
        by_cases hg : DOk J ⟨y0, y1, y2⟩
        · have HG := Lib.hid hg
          clear hg
          go_wp2_with fail
          go_region_held3 (fun w' => w'.cell? ⟨b, 0, none⟩ = some (.int .i64 J) ∧ w'.cell? ⟨b, 1, none⟩ = some (.slice (some ⟨ab, o, none⟩) n k) ∧ w'.cell? ⟨ab, o + q * 3, none⟩ = some (.int .i64 y0) ∧ w'.cell? ⟨ab, o + q * 3 + 1, none⟩ = some (.int .i64 y1) ∧ w'.cell? ⟨ab, o + q * 3 + 2, none⟩ = some (.int .i64 y2)) (go_keep)
            (first | (go_at_call 50; refine (l04One_any _ _ _ _ _ h1 true (decide_eq_true HG.out).symm).mono ?_; rintro e1 W1 ⟨rfl, b1⟩; have z0 : W1.cell? ⟨b, 0, none⟩ = _ := (b1.cell (p := ⟨b, 0, none⟩) hb1).trans d0; have z1 : W1.cell? ⟨b, 1, none⟩ = _ := (b1.cell (p := ⟨b, 1, none⟩) hb1).trans d1; have z2 : W1.cell? ⟨ab, o + q * 3, none⟩ = _ := (b1.cell (p := ⟨ab, o + q * 3, none⟩) hb2).trans p0; have z3 : W1.cell? ⟨ab, o + q * 3 + 1, none⟩ = _ := (b1.cell (p := ⟨ab, o + q * 3 + 1, none⟩) hb2).trans p1; have z4 : W1.cell? ⟨ab, o + q * 3 + 2, none⟩ = _ := (b1.cell (p := ⟨ab, o + q * 3 + 2, none⟩) hb2).trans p2; have k1 : Below w.heap.size w W1 := (by repeat (first | assumption | exact Below.refl _ _ | (refine Below.trans ?_ (b1.mono (by first | omega | (simp; done) | (simp; omega)))) | (refine Below.setCell ?_ (by first | omega | (simp; done) | (simp; omega)) _) | apply below_drewN | apply Below.drew | (refine Below.alloc ?_ (by first | omega | (simp; done) | (simp; omega)) _)))))
          go_wp2
          go_roundw
          case rel => exact ⟨q + 1, by omega, by go_num, k1, fun j hj => by
            by_cases e : j = q
            · subst e; rw [← HX.out]; exact HG.out
            · exact hr.out j (by omega)⟩
          case measure => simp [intOf]; omega
        · have HG := Lib.hid hg
          clear hg
          go_wp2_with fail
          go_region_held3 (fun w' => w'.cell? ⟨b, 0, none⟩ = some (.int .i64 J) ∧ w'.cell? ⟨b, 1, none⟩ = some (.slice (some ⟨ab, o, none⟩) n k) ∧ w'.cell? ⟨ab, o + q * 3, none⟩ = some (.int .i64 y0) ∧ w'.cell? ⟨ab, o + q * 3 + 1, none⟩ = some (.int .i64 y1) ∧ w'.cell? ⟨ab, o + q * 3 + 2, none⟩ = some (.int .i64 y2)) (go_keep)
            (first | (go_at_call 50; refine (l04One_any _ _ _ _ _ h1 false (decide_eq_false HG.out).symm).mono ?_; rintro e1 W1 ⟨rfl, b1⟩; have z0 : W1.cell? ⟨b, 0, none⟩ = _ := (b1.cell (p := ⟨b, 0, none⟩) hb1).trans d0; have z1 : W1.cell? ⟨b, 1, none⟩ = _ := (b1.cell (p := ⟨b, 1, none⟩) hb1).trans d1; have z2 : W1.cell? ⟨ab, o + q * 3, none⟩ = _ := (b1.cell (p := ⟨ab, o + q * 3, none⟩) hb2).trans p0; have z3 : W1.cell? ⟨ab, o + q * 3 + 1, none⟩ = _ := (b1.cell (p := ⟨ab, o + q * 3 + 1, none⟩) hb2).trans p1; have z4 : W1.cell? ⟨ab, o + q * 3 + 2, none⟩ = _ := (b1.cell (p := ⟨ab, o + q * 3 + 2, none⟩) hb2).trans p2; have k1 : Below w.heap.size w W1 := (by repeat (first | assumption | exact Below.refl _ _ | (refine Below.trans ?_ (b1.mono (by first | omega | (simp; done) | (simp; omega)))) | (refine Below.setCell ?_ (by first | omega | (simp; done) | (simp; omega)) _) | apply below_drewN | apply Below.drew | (refine Below.alloc ?_ (by first | omega | (simp; done) | (simp; omega)) _)))))
          go_wp2
          go_ret
          have hbf : ok = false := by
            cases hb : ok
            · rfl
            · have := (HK.out.1 hb).2.2 q (by rw [HLN.out]; omega)
              rw [← HX.out] at this
              exact absurd this HG.out
          exact ⟨ret_bool hbf.symm, k1⟩
      · obtain rfl : q = n := by omega
        by_cases h20 : q ≤ 20
        · have hbt : ok = true := HK.out.2 ⟨h1, by rw [HLN.out]; exact h20, by rw [HLN.out]; exact hr.out⟩
          have HT := Lib.hid hbt
          clear hbt
          go_wp2
          go_ret
          exact ⟨ret_bool (by rw [HT.out]; simp; omega), hb⟩
        · have hbf : ok = false := by
            cases hb : ok
            · rfl
            · exact absurd (by rw [← HLN.out]; exact (HK.out.1 hb).2.1) h20
          have HT := Lib.hid hbf
          clear hbf
          go_wp2
          go_ret
          exact ⟨ret_bool (by rw [HT.out]; simp; omega), hb⟩
  · have hbf : ok = false := by
      cases hb : ok
      · rfl
      · exact absurd (HK.out.1 hb).1 h1
    have HT := Lib.hid hbf
    clear hbf
    go_enter Tryd.func27, Tryd.ntmps27
    go_wp2_with (first | (go_at_call 43; first | (refine (in_t _ _ _ _ (by omega)).mono ?_; rintro e w' ⟨rfl, rfl⟩) | (refine (in_f _ _ _ _ (by omega)).mono ?_; rintro e w' ⟨rfl, rfl⟩)))
    go_ret
    exact ⟨ret_bool HT.out.symm, Below.refl _ _⟩

set_option maxHeartbeats 800000 in
theorem hasJ_b (J j : Int) (A : Option Addr) (n k : Nat) (w : World) (hJ : 2 ≤ J ∧ J ≤ 10) (v : Bool) (hv : v = decide (0 ≤ j ∧ j ≤ J - 1)) :
    Calls Tryd.prog 66 #[.agg #[.int .i64 J, .slice A n k], .int .i64 j] w fun e w' => e = .returned (.bool v) ∧ Below w.heap.size w w' := by
  obtain ⟨j1, j2⟩ := hJ
  by_cases h0 : 0 ≤ j ∧ j ≤ J - 1
  · obtain rfl : v = true := by rw [hv]; exact decide_eq_true h0
    clear hv
    go_enter Tryd.func66, Tryd.ntmps66
    go_wp2_with (first | (go_at_call 52; first | (refine (within_t _ _ _ _ (by omega)).mono ?_; rintro e w' ⟨rfl, rfl⟩) | (refine (within_f _ _ _ _ (by omega)).mono ?_; rintro e w' ⟨rfl, rfl⟩)))
    go_ret
    exact ⟨rfl, (by repeat (first | assumption | exact Below.refl _ _ | (refine Below.setCell ?_ (by first | omega | (simp; done) | (simp; omega)) _) | apply below_drewN | apply Below.drew | (refine Below.alloc ?_ (by first | omega | (simp; done) | (simp; omega)) _)))⟩
  · obtain rfl : v = false := by rw [hv]; exact decide_eq_false h0
    clear hv
    go_enter Tryd.func66, Tryd.ntmps66
    go_wp2_with (first | (go_at_call 52; first | (refine (within_t _ _ _ _ (by omega)).mono ?_; rintro e w' ⟨rfl, rfl⟩) | (refine (within_f _ _ _ _ (by omega)).mono ?_; rintro e w' ⟨rfl, rfl⟩)))
    go_ret
    exact ⟨rfl, (by repeat (first | assumption | exact Below.refl _ _ | (refine Below.setCell ?_ (by first | omega | (simp; done) | (simp; omega)) _) | apply below_drewN | apply Below.drew | (refine Below.alloc ?_ (by first | omega | (simp; done) | (simp; omega)) _)))⟩
def SomeB (w : World) (e : Ending) (w' : World) : Prop := ∃ v : Bool, e = .returned (.bool v) ∧ Below w.heap.size w w'
set_option maxHeartbeats 800000 in
theorem hasJ_some (J j : Int) (A : Option Addr) (n k : Nat) (w : World) :
    Calls Tryd.prog 66 #[.agg #[.int .i64 J, .slice A n k], .int .i64 j] w (SomeB w) := by
  go_enter Tryd.func66, Tryd.ntmps66
  go_wp2_with (first | (go_at_call 52; refine (within_any _ _ _ _).mono ?_; rintro e w' ⟨rfl, rfl⟩))
  go_ret
  exact ⟨_, rfl, (by repeat (first | assumption | exact Below.refl _ _ | (refine Below.setCell ?_ (by first | omega | (simp; done) | (simp; omega)) _) | apply below_drewN | apply Below.drew | (refine Below.alloc ?_ (by first | omega | (simp; done) | (simp; omega)) _)))⟩

set_option maxHeartbeats 1600000 in
theorem canHave_b (J : Int) (A : Option Addr) (n k : Nat) (x0 x1 x2 : Int) (w : World) (hJ : 2 ≤ J ∧ J ≤ 10) (v : Bool) (hv : v = decide (DOk J ⟨x0, x1, x2⟩)) :
    Calls Tryd.prog 54 #[.agg #[.int .i64 J, .slice A n k], .agg #[.int .i64 x0, .int .i64 x1, .int .i64 x2]] w fun e w' => e = .returned (.bool v) ∧ Below w.heap.size w w' := by
  by_cases h0 : 0 ≤ x0 ∧ x0 ≤ J - 1
  · have H0 := Lib.hid h0
    by_cases h1 : 0 ≤ x1 ∧ x1 ≤ J - 1
    · have H1 := Lib.hid h1
      by_cases h3 : x0 = x1
      · obtain rfl : v = false := dok_ff hv (fun h => h.2.2.1 h3)
        have e3 : (x0 != x1) = false := by simp [h3]
        clear hv h0 h1 h3
        go_enter Tryd.func54, Tryd.ntmps54
        go_wp2_with fail
        refine (hasJ_b _ _ _ _ _ _ hJ true (decide_eq_true H0.out).symm).mono ?_
        rintro e1 W1 ⟨rfl, b1⟩
        have s1 : w.heap.size < W1.heap.size := by have := b1.size; simp at this; omega
        have s1' : w.heap.size + 1 < W1.heap.size := by have := b1.size; simp at this; omega
        obtain ⟨c1, f1⟩ := bcell b1
        go_wp2_with fail
        refine (hasJ_b _ _ _ _ _ _ hJ true (decide_eq_true H1.out).symm).mono ?_
        rintro e2 W2 ⟨rfl, b2⟩
        have s2 : w.heap.size < W2.heap.size := by have := b2.size; omega
        have s2' : w.heap.size + 1 < W2.heap.size := by have := b2.size; omega
        obtain ⟨c2, f2⟩ := bcell b2
        go_wp2
        go_ret
        exact ⟨rfl, (by repeat (first | assumption | exact Below.refl _ _ | (refine Below.trans ?_ (b2.mono (by first | omega | (simp; done) | (simp; omega)))) | (refine Below.trans ?_ (b1.mono (by first | omega | (simp; done) | (simp; omega)))) | (refine Below.setCell ?_ (by first | omega | (simp; done) | (simp; omega)) _) | apply below_drewN | apply Below.drew | (refine Below.alloc ?_ (by first | omega | (simp; done) | (simp; omega)) _)))⟩
      · have e3 : (x0 != x1) = true := by simp [h3]
        by_cases h2 : 0 ≤ x2 ∧ x2 ≤ 1000
        · obtain rfl : v = true := by rw [hv]; exact decide_eq_true ⟨h0, h1, h3, h2⟩
          clear hv h0 h1 h3
          go_enter Tryd.func54, Tryd.ntmps54
          go_wp2_with fail
          refine (hasJ_b _ _ _ _ _ _ hJ true (decide_eq_true H0.out).symm).mono ?_
          rintro e1 W1 ⟨rfl, b1⟩
          have s1 : w.heap.size < W1.heap.size := by have := b1.size; simp at this; omega
          have s1' : w.heap.size + 1 < W1.heap.size := by have := b1.size; simp at this; omega
          obtain ⟨c1, f1⟩ := bcell b1
          go_wp2_with fail
          refine (hasJ_b _ _ _ _ _ _ hJ true (decide_eq_true H1.out).symm).mono ?_
          rintro e2 W2 ⟨rfl, b2⟩
          have s2 : w.heap.size < W2.heap.size := by have := b2.size; omega
          have s2' : w.heap.size + 1 < W2.heap.size := by have := b2.size; omega
          obtain ⟨c2, f2⟩ := bcell b2
          go_wp2_with (first | (go_at_call 52; first | (refine (within_t _ _ _ _ (by omega)).mono ?_; rintro e w' ⟨rfl, rfl⟩) | (refine (within_f _ _ _ _ (by omega)).mono ?_; rintro e w' ⟨rfl, rfl⟩)))
          go_ret
          exact ⟨rfl, (by repeat (first | assumption | exact Below.refl _ _ | (refine Below.trans ?_ (b2.mono (by first | omega | (simp; done) | (simp; omega)))) | (refine Below.trans ?_ (b1.mono (by first | omega | (simp; done) | (simp; omega)))) | (refine Below.setCell ?_ (by first | omega | (simp; done) | (simp; omega)) _) | apply below_drewN | apply Below.drew | (refine Below.alloc ?_ (by first | omega | (simp; done) | (simp; omega)) _)))⟩
        · obtain rfl : v = false := dok_ff hv (fun h => h2 h.2.2.2)
          clear hv h0 h1 h3
          go_enter Tryd.func54, Tryd.ntmps54
          go_wp2_with fail
          refine (hasJ_b _ _ _ _ _ _ hJ true (decide_eq_true H0.out).symm).mono ?_
          rintro e1 W1 ⟨rfl, b1⟩
          have s1 : w.heap.size < W1.heap.size := by have := b1.size; simp at this; omega
          have s1' : w.heap.size + 1 < W1.heap.size := by have := b1.size; simp at this; omega
          obtain ⟨c1, f1⟩ := bcell b1
          go_wp2_with fail
          refine (hasJ_b _ _ _ _ _ _ hJ true (decide_eq_true H1.out).symm).mono ?_
          rintro e2 W2 ⟨rfl, b2⟩
          have s2 : w.heap.size < W2.heap.size := by have := b2.size; omega
          have s2' : w.heap.size + 1 < W2.heap.size := by have := b2.size; omega
          obtain ⟨c2, f2⟩ := bcell b2
          go_wp2_with (first | (go_at_call 52; first | (refine (within_t _ _ _ _ (by omega)).mono ?_; rintro e w' ⟨rfl, rfl⟩) | (refine (within_f _ _ _ _ (by omega)).mono ?_; rintro e w' ⟨rfl, rfl⟩)))
          go_ret
          exact ⟨rfl, (by repeat (first | assumption | exact Below.refl _ _ | (refine Below.trans ?_ (b2.mono (by first | omega | (simp; done) | (simp; omega)))) | (refine Below.trans ?_ (b1.mono (by first | omega | (simp; done) | (simp; omega)))) | (refine Below.setCell ?_ (by first | omega | (simp; done) | (simp; omega)) _) | apply below_drewN | apply Below.drew | (refine Below.alloc ?_ (by first | omega | (simp; done) | (simp; omega)) _)))⟩
    · obtain rfl : v = false := dok_ff hv (fun h => h1 h.2.1)
      have H1 := Lib.hid h1
      clear hv h0 h1
      go_enter Tryd.func54, Tryd.ntmps54
      go_wp2_with fail
      refine (hasJ_b _ _ _ _ _ _ hJ true (decide_eq_true H0.out).symm).mono ?_
      rintro e1 W1 ⟨rfl, b1⟩
      have s1 : w.heap.size < W1.heap.size := by have := b1.size; simp at this; omega
      have s1' : w.heap.size + 1 < W1.heap.size := by have := b1.size; simp at this; omega
      obtain ⟨c1, f1⟩ := bcell b1
      go_wp2_with fail
      refine (hasJ_b _ _ _ _ _ _ hJ false (decide_eq_false H1.out).symm).mono ?_
      rintro e2 W2 ⟨rfl, b2⟩
      go_wp2
      go_ret
      exact ⟨rfl, (by repeat (first | assumption | exact Below.refl _ _ | (refine Below.trans ?_ (b2.mono (by first | omega | (simp; done) | (simp; omega)))) | (refine Below.trans ?_ (b1.mono (by first | omega | (simp; done) | (simp; omega)))) | (refine Below.setCell ?_ (by first | omega | (simp; done) | (simp; omega)) _) | apply below_drewN | apply Below.drew | (refine Below.alloc ?_ (by first | omega | (simp; done) | (simp; omega)) _)))⟩
  · obtain rfl : v = false := dok_ff hv (fun h => h0 h.1)
    have H0 := Lib.hid h0
    clear hv h0
    go_enter Tryd.func54, Tryd.ntmps54
    go_wp2_with fail
    refine (hasJ_b _ _ _ _ _ _ hJ false (decide_eq_false H0.out).symm).mono ?_
    rintro e1 W1 ⟨rfl, b1⟩
    go_wp2
    go_ret
    exact ⟨rfl, (by repeat (first | assumption | exact Below.refl _ _ | (refine Below.trans ?_ (b1.mono (by first | omega | (simp; done) | (simp; omega)))) | (refine Below.setCell ?_ (by first | omega | (simp; done) | (simp; omega)) _) | apply below_drewN | apply Below.drew | (refine Below.alloc ?_ (by first | omega | (simp; done) | (simp; omega)) _)))⟩
end Go.Proofs.YtnjadniidbbhcaaDoor
