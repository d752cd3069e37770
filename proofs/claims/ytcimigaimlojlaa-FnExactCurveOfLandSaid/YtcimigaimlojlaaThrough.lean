/- The program's curve through levels, at the volumes of a land. -/
import Derived.Test.YtcimigaimlojlaaLvs
import Derived.Test.YtcimigaimlojlaaCurveI
namespace Go.Proofs.Ytcimigaimlojlaa
open Go.RowKit

theorem below_drew' {w w' : World} (h : Below w.drew.heap.size w.drew w') : Below w.heap.size w w' := ⟨h.os, h.tape, h.output, h.size, h.block⟩
structure RBox (w : World) (b : Nat) : Prop where
  c0 : w.cell? ⟨b, 0, none⟩ = some (.slice none 0 0)
  c1 : w.cell? ⟨b, 1, none⟩ = some (.slice none 0 0)
  f0 : w.frozen? ⟨b, 0, none⟩ = false
  f1 : w.frozen? ⟨b, 1, none⟩ = false
theorem RBox.below {w w' : World} {b : Nat} (h : RBox w b) (hb : Below w.heap.size w w') (hB : b < w.heap.size) : RBox w' b :=
  ⟨(hb.cell (p := ⟨b, 0, none⟩) hB).trans h.c0, (hb.cell (p := ⟨b, 1, none⟩) hB).trans h.c1, (hb.frozen (p := ⟨b, 0, none⟩) hB).trans h.f0, (hb.frozen (p := ⟨b, 1, none⟩) hB).trans h.f1⟩
theorem RBox.set {w : World} {b : Nat} (h : RBox w b) {a : Addr} (ha : b ≠ a.block) (u : Value) : RBox (w.setCell a u) b :=
  ⟨(World.cell?_setCell_other _ _ _ _ (fun e => ha (by rw [e]))).trans h.c0, (World.cell?_setCell_other _ _ _ _ (fun e => ha (by rw [e]))).trans h.c1, by simpa using h.f0, by simpa using h.f1⟩
theorem half_below {n b o : Nat} {f : Nat → Int} {xs : List Int} {k : Nat} {w w' : World} (h : Half n b o f xs k w) (hb : Below w.heap.size w w') (hB : b < w.heap.size) : Half n b o f xs k w' := fun j hj =>
  ⟨(hb.cell (p := ⟨b, o + j, none⟩) hB).trans (h j hj).1, (hb.frozen (p := ⟨b, o + j, none⟩) hB).trans (h j hj).2⟩
/-- the volumes of levels, from the first one's on -/
def volsOf (ls xs : List Int) (m : Nat) : List Int := ls.map fun y => vol y xs m - vol (ls.getD 0 0) xs m

set_option maxRecDepth 100000 in
set_option maxHeartbeats 3200000 in
theorem curveThrough_t (A : Option Addr) (n d : Nat) (ls : List Int) (r c : Int) (H : Option Addr) (m k : Nat) (xs : List Int) (w : World) (hn0 : 0 < n) (hn : n ≤ 12) (ha : Rd w w.heap.size A n ls) (hx : Rd w w.heap.size H m xs) (hl : LandOk r c xs) (hv : ∀ z, z ∈ ls → lvl z) :
    Calls Try.prog 66 #[.slice A n d, .func (.func 67) #[.agg #[.int .i64 r, .int .i64 c, .slice H m k]] #[]] w fun e w' => ∃ B e', e = .returned (.agg #[.slice A n d, .slice B n e']) ∧ Below w.heap.size w w' ∧ Wr w' w.heap.size B n (volsOf ls xs m) := by
  have hln := ha.1
  have hxm := hx.1
  have hxl := hl.len
  obtain ⟨bl, ol, rfl, hbl, hcl⟩ := ha.2 hn0
  have HX := Lib.hid hx
  have HL := Lib.hid hl
  have HC := Lib.hid hcl
  have HV := Lib.hid hv
  obtain ⟨y0, ey0⟩ : ∃ y0, y0 = ls.getD 0 0 := ⟨_, rfl⟩
  have hy0 : lvl y0 := by
    rw [ey0]
    refine hv _ ?_
    rw [List.getD_eq_getElem?_getD, List.getElem?_eq_getElem (show 0 < ls.length by omega)]
    exact List.getElem_mem _
  have EY0 := Lib.hid ey0
  obtain ⟨F, hF⟩ : ∃ F : Nat → Int, F = fun j => vol (ls.getD j 0) xs m - vol y0 xs m := ⟨_, rfl⟩
  have EF := Lib.hid hF
  have hb0 := vol_bd y0 xs m hy0 (fun j hj => hl.2.2.2 j (by omega))
  obtain ⟨i0, hi, hz0, hz1, hz2⟩ := info_parts info_i64
  have hmk := fun W => run_make_rowN (P := Try.prog) 37 2 i0 (.int .i64 0) Try.underlying37 hi hz0 .i64 .i64 n n (Nat.le_refl _) (by rw [hz2]; omega) (by omega) W
  rw [hz1] at hmk
  clear hi hz0 hz1 hz2 ha hx hcl hv hl ey0 hF
  go_enter Try.func66, Try.ntmps66
  go_wp2
  go_loopw [13] (fun i wr => ∃ q : Nat, q ≤ n ∧ i = .int .i64 (q : Int) ∧ Below w.heap.size w wr ∧ w.heap.size + 1 < wr.heap.size ∧ Hid (RBox wr w.heap.size) ∧ Hid (Half n (w.heap.size + 1) 0 F (List.replicate n 0) q wr)) (fun i _ => n - (intOf i).toNat)
  case atStart =>
    refine ⟨0, by omega, rfl, ((Below.refl _ _).alloc (Nat.le_refl _) _).alloc (by simp) _, by simp, ⟨by simp, by simp, by simp, by simp⟩, ?_⟩
    have := Half.new (w.alloc (.cells #[.slice none 0 0, .slice none 0 0] 56)) n F 2 n rfl
    rw [show (w.alloc (.cells #[.slice none 0 0, .slice none 0 0] 56)).heap.size = w.heap.size + 1 by simp] at this
    exact Lib.hid this
  case round =>
    obtain ⟨q, hq, rfl, hb, hs, HB, HH⟩ := hrel
    by_cases hlt : q < n
    · have hb3 : bl < wr.heap.size := by omega
      obtain ⟨y, ey⟩ : ∃ y, y = ls.getD q 0 := ⟨_, rfl⟩
      have hy : lvl y := by
        rw [ey]
        refine HV.out _ ?_
        rw [List.getD_eq_getElem?_getD, List.getElem?_eq_getElem (show q < ls.length by omega)]
        exact List.getElem_mem _
      have hbd := vol_bd y xs m hy (fun j hj => HL.out.2.2.2 j (by omega))
      have q0 : wr.cell? ⟨bl, ol, none⟩ = some (.int .i64 y0) := by
        rw [EY0.out]
        exact (hb.cell (p := ⟨bl, ol, none⟩) hbl).trans (HC.out 0 hn0)
      have q1 : wr.cell? ⟨bl, ol + q, none⟩ = some (.int .i64 y) := by
        rw [ey]
        exact (hb.cell (p := ⟨bl, ol + q, none⟩) hbl).trans (HC.out q hlt)
      have EYF := Lib.hid (show vol y xs m - vol y0 xs m = F q by rw [EF.out, ey])
      have hwr := IntWalk.i64_in (vol y xs m - vol y0 xs m) (by omega)
      have g1 : (q : Int) < (n : Int) := by omega
      have g2 : (0 : Int) < (n : Int) := by omega
      have g0 : (0 : Int) ≤ (q : Int) := by omega
      clear ey
      go_wp2_with fail
      refine wp_region_held_drew (S := fun w' => w'.cell? ⟨bl, ol, none⟩ = some (.int .i64 y0)) (by kernel_rfl) q0 (fun hHeld => ?_)
      ((refine wpAnyH_take (i := 0) (oi := ⟨some 18, _, _, _, _, _⟩) (v := ?_) rfl (by kernel_rfl) (by kernel_rfl) (by kernel_rfl) (fun _ _ _ h => h) (Or.inl ⟨by rfl, ?_⟩) (by assumption) ?_; rotate_left 1; (focus (intro w hSw; (try dsimp only at hSw); go_simp <;> try (first | (with_reducible rfl) | (rw [if_neg (by omega)])))); try simp only [Act.put, List.setIfInBounds_toArray, List.set_cons_zero, List.set_cons_succ]); (refine wpAnyH_take (i := 1) (oi := ⟨some 19, _, _, _, _, _⟩) (v := ?_) rfl (by kernel_rfl) (by kernel_rfl) (by kernel_rfl) (fun _ _ _ h => h) (Or.inl ⟨by rfl, ?_⟩) (by assumption) ?_; rotate_left 1; (focus (intro w hSw; (try dsimp only at hSw); go_simp <;> try (first | (with_reducible rfl) | (rw [if_neg (by omega)])))); try simp only [Act.put, List.setIfInBounds_toArray, List.set_cons_zero, List.set_cons_succ]); (refine wpAnyH_take (i := 2) (oi := ⟨some 20, _, _, _, _, _⟩) (v := ?_) rfl (by kernel_rfl) (by kernel_rfl) (by kernel_rfl) (fun _ _ _ h => h) (Or.inl ⟨by rfl, ?_⟩) (by assumption) ?_; rotate_left 1; (focus (intro w hSw; (try dsimp only at hSw); go_simp <;> try (first | (with_reducible rfl) | (rw [if_neg (by omega)])))); try simp only [Act.put, List.setIfInBounds_toArray, List.set_cons_zero, List.set_cons_succ]); (refine wpAnyH_take (i := 3) (oi := ⟨some 21, _, _, _, _, _⟩) (v := ?_) rfl (by kernel_rfl) (by kernel_rfl) (by kernel_rfl) (fun _ _ _ h => h) (Or.inl ⟨by rfl, ?_⟩) (by assumption) ?_; rotate_left 1; (focus (intro w hSw; (try dsimp only at hSw); go_simp <;> try (first | (with_reducible rfl) | (rw [if_neg (by omega)])))); try simp only [Act.put, List.setIfInBounds_toArray, List.set_cons_zero, List.set_cons_succ]); (refine wpAnyH_take (i := 5) (oi := ⟨some 23, _, _, _, _, _⟩) (v := ?_) rfl (by kernel_rfl) (by kernel_rfl) (by kernel_rfl) (fun _ _ _ h => h) (Or.inl ⟨by rfl, ?_⟩) (by assumption) ?_; rotate_left 1; (focus (intro w hSw; (try dsimp only at hSw); go_simp <;> try (first | (with_reducible rfl) | (rw [if_neg (by omega)])))); try simp only [Act.put, List.setIfInBounds_toArray, List.set_cons_zero, List.set_cons_succ]); (refine wpAnyH_take (i := 6) (oi := ⟨some 24, _, _, _, _, _⟩) (v := ?_) rfl (by kernel_rfl) (by kernel_rfl) (by kernel_rfl) (fun _ _ _ h => h) (Or.inl ⟨by rfl, ?_⟩) (by assumption) ?_; rotate_left 1; (focus (intro w hSw; (try dsimp only at hSw); go_simp <;> try (first | (with_reducible rfl) | (rw [if_neg (by omega)])))); try simp only [Act.put, List.setIfInBounds_toArray, List.set_cons_zero, List.set_cons_succ]); (refine wpAnyH_take (i := 7) (oi := ⟨some 25, _, _, _, _, _⟩) (v := ?_) rfl (by kernel_rfl) (by kernel_rfl) (by kernel_rfl) (fun _ _ _ h => h) (Or.inl ⟨by rfl, ?_⟩) (by assumption) ?_; rotate_left 1; (focus (intro w hSw; (try dsimp only at hSw); go_simp <;> try (first | (with_reducible rfl) | (rw [if_neg (by omega)])))); try simp only [Act.put, List.setIfInBounds_toArray, List.set_cons_zero, List.set_cons_succ]); (refine wpAnyH_take (i := 8) (oi := ⟨some 26, _, _, _, _, _⟩) (v := ?_) rfl (by kernel_rfl) (by kernel_rfl) (by kernel_rfl) (fun _ _ _ h => h) (Or.inl ⟨by rfl, ?_⟩) (by assumption) ?_; rotate_left 1; (focus (intro w hSw; (try dsimp only at hSw); go_simp <;> try (first | (with_reducible rfl) | (rw [if_neg (by omega)])))); try simp only [Act.put, List.setIfInBounds_toArray, List.set_cons_zero, List.set_cons_succ]))
      (refine wpAnyH_ready (rs := [4]) (by kernel_rfl) (by simp) ?_; refine AllReadyH.cons rfl (fun K hK => ?_) AllReadyH.nil; go_simp)
      refine (volumeBelow_t r c H m k xs y _ ((HX.out.below hb.drew).mono (show w.heap.size ≤ wr.heap.size by omega)) HL.out hy).mono ?_
      rintro e1 W1 ⟨rfl, b1⟩
      have s1 : wr.heap.size ≤ W1.heap.size := by have h := b1.size; have h2 : wr.heap.size ≤ wr.drew.heap.size := Nat.le_refl _; omega
      have z1 := (b1.cell (p := ⟨bl, ol, none⟩) (show bl < _ from Nat.lt_of_lt_of_le hb3 (Nat.le_refl _))).trans hHeld
      have d1 : Below w.heap.size w W1 := hb.trans ((below_drew' b1).mono (by omega))
      have h1 : Half n (w.heap.size + 1) 0 F (List.replicate n 0) q W1 := half_below (w := wr.drew) HH.out b1 (show w.heap.size + 1 < wr.heap.size by omega)
      have x1 : RBox W1 w.heap.size := RBox.below (w := wr.drew) ⟨HB.out.c0, HB.out.c1, HB.out.f0, HB.out.f1⟩ b1 (show w.heap.size < wr.heap.size by omega)
      clear hHeld
      (refine hK.out _ _ ?_ (fun hHeld => ?_))
      · exact z1
      (refine wpAnyH_ready (rs := [9]) (by kernel_rfl) (by simp) ?_; refine AllReadyH.cons rfl (fun K hK => ?_) AllReadyH.nil; go_simp)
      refine (volumeBelow_t r c H m k xs y0 _ ((HX.out.below d1).mono (by omega)) HL.out hy0).mono ?_
      rintro e2 W2 ⟨rfl, b2⟩
      have s2 : wr.heap.size ≤ W2.heap.size := by have h := b2.size; omega
      have z2 := (b2.cell (p := ⟨bl, ol, none⟩) (show bl < _ from Nat.lt_of_lt_of_le hb3 s1)).trans hHeld
      have d2 : Below w.heap.size w W2 := d1.trans (b2.mono (by omega))
      have h2 : Half n (w.heap.size + 1) 0 F (List.replicate n 0) q W2 := half_below h1 b2 (by omega)
      have x2 : RBox W2 w.heap.size := RBox.below x1 b2 (by omega)
      obtain ⟨m2, n2⟩ := h2 q hlt
      rw [if_neg (Nat.lt_irrefl q)] at m2
      simp only [Nat.zero_add] at m2 n2
      clear hHeld
      (refine hK.out _ _ ?_ (fun hHeld => ?_))
      · exact z2
      ((refine wpAnyH_take (i := 10) (oi := ⟨some 28, _, _, _, _, _⟩) (v := ?_) rfl (by kernel_rfl) (by kernel_rfl) (by kernel_rfl) (fun _ _ _ h => h) (Or.inl ⟨by rfl, ?_⟩) (by assumption) ?_; rotate_left 1; (focus (intro w hSw; (try dsimp only at hSw); go_simp <;> try (first | (with_reducible rfl) | (rw [if_neg (by omega)])))); try simp only [Act.put, List.setIfInBounds_toArray, List.set_cons_zero, List.set_cons_succ]); (refine wpAnyH_take (i := 11) (oi := ⟨some 29, _, _, _, _, _⟩) (v := ?_) rfl (by kernel_rfl) (by kernel_rfl) (by kernel_rfl) (fun _ _ _ h => h) (Or.inl ⟨by rfl, ?_⟩) (by assumption) ?_; rotate_left 1; (focus (intro w hSw; (try dsimp only at hSw); go_simp <;> try (first | (with_reducible rfl) | (rw [if_neg (by omega)])))); try simp only [Act.put, List.setIfInBounds_toArray, List.set_cons_zero, List.set_cons_succ]))
      (refine wpAnyH_ready (rs := [12]) (by kernel_rfl) (by simp) ?_; refine AllReadyH.cons rfl (fun K hK => ?_) AllReadyH.nil; go_simp)
      have v0 := (World.cell?_setCell_other W2 ⟨w.heap.size + 1, q, none⟩ ⟨bl, ol, none⟩ (.int .i64 (vol y xs m - vol y0 xs m)) (by simp <;> omega)).trans z2
      (refine hK.out _ _ ?_ (fun hHeld => ?_))
      · exact v0
      refine wpAnyH_done (by kernel_rfl) ?_ _
      go_wp2
      go_roundw
      case rel => exact ⟨q + 1, by omega, by go_num, d2.setCell (by simp) _, by show w.heap.size + 1 < (W2.setCell _ _).heap.size; simp [World.setCell]; omega, x2.set (by simp) _, by have := h2.step _ EYF.out; simp only [Nat.zero_add] at this; exact this⟩
      case measure => simp [intOf]; omega
    · obtain rfl : q = n := by omega
      obtain ⟨c0, c1, f0, f1⟩ := HB.out
      have hw := HH.out.done (base := w.heap.size + 1) (ys := volsOf ls xs m) (by rw [volsOf, List.length_map]; exact hln) (fun j hj => by
        have hj' : j < ls.length := by omega
        rw [EF.out, EY0.out]
        simp [volsOf, List.getD_eq_getElem?_getD, hj']) (Nat.le_refl _) (by omega)
      go_wp2
      exact bodyPost_ret (v := .agg #[.slice (some ⟨bl, ol, none⟩) q d, .slice (some ⟨w.heap.size + 1, 0, none⟩) q q]) (by simp [results, Try.results66, go_sem, c0, c1]) rfl ⟨_, _, rfl, (hb.setCell (Nat.le_refl _) _).setCell (Nat.le_refl _) _, (hw.abv (((Abv.refl _ _).setCell (by simp) _).setCell (by simp) _)).lower (by omega)⟩

end Go.Proofs.Ytcimigaimlojlaa
