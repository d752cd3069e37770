/- The flow of each hour: of the program. -/
import Derived.Test.YtcimigaimlojlaaSluF
import Derived.Test.YtcimigaimlojlaaHrI
import Derived.Test.YtcimigaimlojlaaHrs
import Derived.Test.YtcimigaimlojlaaRainP
namespace Go.Proofs.Ytcimigaimlojlaa
open Go.RowKit Go.Shelf
attribute [local go_sem] Oper.semAt_some

def flA (wd sl : Int) (xs ys : List Int) (j : Nat) : Int := flN wd sl (xs.getD j 0) (ys.getD j 0)

structure FlI (w : World) (n : Nat) (wd sl : Int) (fl : Nat → Int) (pre : List Nat) (W : World) : Prop where
  D : Below w.heap.size w W
  size : w.heap.size + 5 ≤ W.heap.size
  c0 : W.cell? ⟨w.heap.size, 0, none⟩ = some (.int .i64 wd)
  c1 : W.cell? ⟨w.heap.size, 1, none⟩ = some (.int .i64 sl)
  cb : W.cell? ⟨w.heap.size + 1 + 1, 0, none⟩ = some (.slice (some ⟨w.heap.size + 1, 0, none⟩) n n)
  row : ∀ j, j < n → W.cell? ⟨w.heap.size + 1, j, none⟩ = some (.int .i64 (if j ∈ pre then fl j else 0)) ∧ W.frozen? ⟨w.heap.size + 1, j, none⟩ = false
theorem FlI.own {w : World} {n : Nat} {wd sl : Int} {fl : Nat → Int} {pre : List Nat} {W W' : World} {row : Option Nat} (h : FlI w n wd sl fl pre W) (hg : W.grownBy W' row) (hr : ∀ r, row = some r → w.heap.size ≤ r ∧ ∃ o : Obj, W.heap[r]? = some o ∧ o.isCells = false) : FlI w n wd sl fl pre W' :=
  have hr' := fun r e => (hr r e).2
  ⟨h.D.grown hg h.D.size (fun k e => (hr k e).1), Nat.le_trans h.size hg.size, cell_kept h.c0 hg hr', cell_kept h.c1 hg hr', cell_kept h.cb hg hr', fun j hj => ⟨cell_kept (h.row j hj).1 hg hr', (frozen_kept (h.row j hj).1 hg hr').trans (h.row j hj).2⟩⟩
theorem FlI.below {w : World} {n : Nat} {wd sl : Int} {fl : Nat → Int} {pre : List Nat} {W W' : World} (h : FlI w n wd sl fl pre W) (hb : Below (w.heap.size + 5) W W') : FlI w n wd sl fl pre W' :=
  ⟨h.D.trans (hb.mono (by omega)), Nat.le_trans h.size hb.size, (hb.cell (p := ⟨w.heap.size, 0, none⟩) (show w.heap.size < _ by omega)).trans h.c0, (hb.cell (p := ⟨w.heap.size, 1, none⟩) (show w.heap.size < _ by omega)).trans h.c1, (hb.cell (p := ⟨w.heap.size + 1 + 1, 0, none⟩) (show w.heap.size + 1 + 1 < _ by omega)).trans h.cb,
   fun j hj => ⟨(hb.cell (p := ⟨w.heap.size + 1, j, none⟩) (show w.heap.size + 1 < _ by omega)).trans (h.row j hj).1, (hb.frozen (p := ⟨w.heap.size + 1, j, none⟩) (show w.heap.size + 1 < _ by omega)).trans (h.row j hj).2⟩⟩
theorem FlI.set {w : World} {n : Nat} {wd sl : Int} {fl : Nat → Int} {pre : List Nat} {W : World} (h : FlI w n wd sl fl pre W) {k : Nat} (hk : k < n) (v : Int) (hv : v = fl k) : FlI w n wd sl fl (pre ++ [k]) (W.setCell ⟨w.heap.size + 1, k, none⟩ (.int .i64 v)) := by
  refine ⟨h.D.setCell (p := ⟨w.heap.size + 1, k, none⟩) (show w.heap.size ≤ w.heap.size + 1 by omega) _, Nat.le_trans h.size (by simp [World.setCell]), (World.cell?_setCell_other _ _ _ _ (by simp)).trans h.c0, (World.cell?_setCell_other _ _ _ _ (by simp)).trans h.c1, (World.cell?_setCell_other _ _ _ _ (by simp)).trans h.cb, fun j hj => ⟨?_, by simpa using (h.row j hj).2⟩⟩
  by_cases e : j = k
  · subst e
    rw [World.cell?_setCell_same _ _ _ (h.row j hj).1, if_pos (by simp), hv]
  · rw [World.cell?_setCell_other _ _ _ _ (fun g => e (by injection g with _ g2; exact g2.symm)), (h.row j hj).1]
    by_cases c : j ∈ pre
    · rw [if_pos c, if_pos (by simp [c])]
    · rw [if_neg c, if_neg (by simp [c, e])]

set_option maxRecDepth 100000 in
set_option maxHeartbeats 12800000 in
theorem flows_t (wd sl : Int) (A A' : Option Addr) (n c c' : Nat) (xs ys : List Int) (w : World) (hn : n ≤ 200) (hs : slOk wd sl) (hx : allIn (-2000) 2000 n xs) (hy : allIn (-2000) 2000 n ys) (ha : Rd w w.heap.size A n xs) (hb : Rd w w.heap.size A' n ys) :
    Calls Try.prog 59 #[.agg #[.int .i64 wd, .int .i64 sl], .slice A n c, .slice A' n c'] w fun e w' => e = .returned (.slice (some ⟨w.heap.size + 1, 0, none⟩) n n) ∧ Below w.heap.size w w' ∧ w.heap.size + 1 < w'.heap.size ∧ Wr w' w.heap.size (some ⟨w.heap.size + 1, 0, none⟩) n (rowOf (flA wd sl xs ys) n) := by
  have HS := Lib.hid hs
  have HX := Lib.hid hx
  have HY := Lib.hid hy
  have HA := Lib.hid ha
  have HB := Lib.hid hb
  obtain ⟨i0, hi, hz0, hz1, hz2⟩ := info_parts info_i64
  have hmk := fun W => run_make_rowN (P := Try.prog) 37 2 i0 (.int .i64 0) Try.underlying37 hi hz0 .i64 .i64 n n (Nat.le_refl _) (by rw [hz2]; omega) (by omega) W
  rw [hz1] at hmk
  clear hi hz0 hz1 hz2 hs hx hy ha hb
  have hmx : Try.prog.follows .mixedOrders = true := by kernel_rfl
  refine (callsIn_wide (n := 9)).1 ?_
  refine callsIn_of_wp_marks Try.func59 rfl trivial ?_ rfl
  simp only [Try.ntmps59, List.size_toArray, List.length_cons, List.length_nil, Nat.reduceAdd, Nat.reduceSub, Array.replicate_succ, Array.replicate_zero, List.push_toArray, List.append_toArray, List.nil_append, List.cons_append]
  gi_wp2_with (refine ⟨trivial, ?_⟩; gi_at_call 54; refine (hours_in Fence.wide _ trivial rfl _ _ _ _ _ _ _).mono ?_; rintro e w' ⟨rfl, rfl⟩)
  obtain ⟨W0, hW0⟩ : ∃ W0, W0 = (((((w.alloc (.cells #[.int .i64 wd, .int .i64 sl] 26)).alloc (.cells (madeCells #[Value.int .i64 0] n) 2)).alloc (.cells #[.slice (some ⟨w.heap.size + 1, 0, none⟩) n n] 37)).alloc (.cells #[.slice A n c] 37)).alloc (.cells #[.slice A' n c'] 37)) := ⟨_, rfl⟩
  have hz : W0.heap.size = w.heap.size + 5 := by rw [hW0]; simp
  have hI0 : FlI w n wd sl (flA wd sl xs ys) [] W0 := by
    have hH := Half.new (w.alloc (.cells #[.int .i64 wd, .int .i64 sl] 26)) n (fun _ => 0) 2 n rfl
    have hB : Below ((w.alloc (.cells #[.int .i64 wd, .int .i64 sl] 26)).alloc (.cells (madeCells #[Value.int .i64 0] n) 2)).heap.size ((w.alloc (.cells #[.int .i64 wd, .int .i64 sl] 26)).alloc (.cells (madeCells #[Value.int .i64 0] n) 2)) W0 := by
      rw [hW0]; exact (((Below.refl _ _).alloc (Nat.le_refl _) _).alloc (by simp) _).alloc (by simp) _
    refine ⟨by rw [hW0]; exact (by repeat (first | assumption | exact Below.refl _ _ | (refine Below.setCell ?_ (by first | omega | (simp; done) | (simp; omega)) _) | apply below_drewN | apply Below.drew | (refine Below.alloc ?_ (by first | omega | (simp; done) | (simp; omega)) _))), by omega, by rw [hW0]; go_simp, by rw [hW0]; go_simp, by rw [hW0]; go_simp, fun j hj => ?_⟩
    obtain ⟨g1, g2⟩ := hH j hj
    simp only [World.size_alloc, Nat.zero_add] at g1 g2
    refine ⟨(hB.cell (p := ⟨w.heap.size + 1, j, none⟩) (by simp)).trans (g1.trans ?_), (hB.frozen (p := ⟨w.heap.size + 1, j, none⟩) (by simp)).trans g2⟩
    simp [List.getD_eq_getElem?_getD, hj]
  have q1 : W0.cell? ⟨w.heap.size + 1 + 1 + 1, 0, none⟩ = some (.slice A n c) := by rw [hW0]; go_simp
  have q2 : W0.cell? ⟨w.heap.size + 1 + 1 + 1 + 1, 0, none⟩ = some (.slice A' n c') := by rw [hW0]; go_simp
  rw [← hW0]
  clear hW0
  refine wpIn_rangeFunc_ownH rfl (by omega) (gf := 74) (lb := #[.pointer (some ⟨w.heap.size + 1 + 1 + 1, 0, none⟩), .pointer (some ⟨w.heap.size + 1 + 1 + 1 + 1, 0, none⟩)]) rfl trivial (enters_of Try.func74 (by kernel_rfl) rfl)
    (hours_stops Fence.wide 8 trivial rfl (by omega) (w.heap.size + 1 + 1 + 1) (w.heap.size + 1 + 1 + 1 + 1) w.heap.size (w.heap.size + 3) (w.heap.size + 5) c c' n A A' xs ys (by omega) W0 (by omega) (by omega) (by omega) (by omega) (by omega) q1 q2 (by omega) (HA.out.below hI0.D) (HB.out.below hI0.D)) Mid.trans (midK_b (by omega)) (Below.refl _ _) (fun _ => rfl)
    (fun pre W => FlI w n wd sl (flA wd sl xs ys) (vals pre) W) (fun _ _ _ => False)
    (fun _ _ _ _ hs hg hr => hs.own hg (fun r e => ⟨by have := (hr r e).1; omega, (hr r e).2⟩)) (fun _ _ _ _ _ hs _ _ => hs) hI0
    (fun x a' W => ∃ Bx, Hr2 (w.heap.size + 5) Bx (xs.getD x.1 0) (ys.getD x.1 0) W ∧ a' = { tmps := #[.agg #[.int .i64 wd, .int .i64 sl], .slice A n c, .slice A' n c', .pointer (some ⟨w.heap.size, 0, none⟩), undef, undef, .slice none 0 0, .pointer (some ⟨w.heap.size + 1 + 1, 0, none⟩), .int .i64 (x.1 : Int), .pointer (some ⟨Bx, 0, none⟩), .slice A n c, .int .i64 (n : Int), .slice (some ⟨w.heap.size + 1, 0, none⟩) n n, .slice A n c, .slice A' n c', .func (.func 74) #[] #[.pointer (some ⟨w.heap.size + 1 + 1 + 1, 0, none⟩), .pointer (some ⟨w.heap.size + 1 + 1 + 1 + 1, 0, none⟩)], .int .i64 (x.1 : Int), .agg #[.int .i64 (xs.getD x.1 0), .int .i64 (ys.getD x.1 0)], undef, undef, undef, undef, undef, undef, undef], defers := [] })
    (fun x a' _ _ _ _ h hg hr => by
      obtain ⟨Bx, h, e⟩ := h
      exact ⟨Bx, h.own hg (fun r e => (hr r e).2), e⟩) ?assign ?body ?done ?stop
  case assign =>
    rintro l pre x W K hI hK
    have hsz := hI.size
    dsimp only [encH]
    gi_wp2
    have hA2 : Below W.heap.size W (W.alloc (.cells #[.int .i64 (xs.getD x.1 0), .int .i64 (ys.getD x.1 0)] 72)) := (Below.refl _ _).alloc (Nat.le_refl _) _
    exact hK _ _ ((KeepsOthers.alloc W _).from _) (Mid.of_below (hA2.mono hsz)) (hI.below (hA2.mono hsz)) ⟨W.heap.size, ⟨hsz, by simp, by simp, by simp⟩, rfl⟩
  case body =>
    rintro l pre ⟨k, hkn⟩ a' W hl ⟨r, hr⟩ hI ⟨Bx, hBx, rfl⟩ hlt
    have hle : w.heap.size + 5 ≤ W.heap.size := hI.size
    have c0 := hI.c0
    have c1 := hI.c1
    have cb := hI.cb
    have b0 := hBx.c0
    have b1' := hBx.c1
    obtain ⟨u, hu⟩ : ∃ u, u = xs.getD k 0 := ⟨_, rfl⟩
    obtain ⟨v, hv⟩ : ∃ v, v = ys.getD k 0 := ⟨_, rfl⟩
    obtain ⟨q, hq⟩ : ∃ q, q = flA wd sl xs ys k := ⟨_, rfl⟩
    have HU := Lib.hid (show slv u by rw [hu]; exact HX.out k hkn)
    have HV := Lib.hid (show slv v by rw [hv]; exact HY.out k hkn)
    have HQ := Lib.hid (show q = flN wd sl u v by rw [hq, hu, hv]; rfl)
    have HQ2 := Lib.hid hq
    simp only at b0 b1' ⊢
    rw [← hu] at b0
    rw [← hv] at b1'
    rw [← hu, ← hv]
    clear hu hv hq hBx
    gi_wp2
    refine wpIn_region_any hmx ?_
    change wpAnyIn _ _ _ _ _ _ _ _ _ (World.drew _)
    refine wpAnyIn_ready (rs := [0, 1, 2, 3]) (by kernel_rfl) (by simp) ?_
    refine AllReadyIn.cons rfl (fun K hK => ?_) (AllReadyIn.cons rfl (fun K hK => ?_) (AllReadyIn.cons rfl (fun K hK => ?_) (AllReadyIn.cons rfl (fun K hK => ?_) AllReadyIn.nil)))
    · go_simp
      refine hK _ _ ?_
      clear hK K
      refine wpAnyIn_ready (rs := [1, 2, 3]) (by kernel_rfl) (by simp) ?_
      refine AllReadyIn.cons rfl (fun K hK => ?_) (AllReadyIn.cons rfl (fun K hK => ?_) (AllReadyIn.cons rfl (fun K hK => ?_) AllReadyIn.nil))
      · go_simp
        refine hK _ _ ?_
        clear hK K
        refine wpAnyIn_ready (rs := [2, 3]) (by kernel_rfl) (by simp) ?_
        refine AllReadyIn.cons rfl (fun K hK => ?_) (AllReadyIn.cons rfl (fun K hK => ?_) AllReadyIn.nil)
        · go_simp
          refine hK _ _ ?_
          clear hK K
          refine wpAnyIn_ready (rs := [3]) (by kernel_rfl) (by simp) ?_
          refine AllReadyIn.cons rfl (fun K hK => ?_) AllReadyIn.nil
          go_simp
          refine hK _ _ ?_
          clear hK K
          refine wpAnyIn_ready (rs := [4]) (by kernel_rfl) (by simp) ?_
          refine AllReadyIn.cons rfl (fun K hK => ?_) AllReadyIn.nil
          go_simp
          refine ⟨trivial, ?_⟩
          refine (CallsIn.inRound l (callsIn_wide.2 (flowI_t wd sl u v _ HS.out HU.out HV.out q HQ.out))).mono ?_
          rintro e1 W1 ⟨rfl, b1d⟩
          have b1 : Below W.heap.size W W1 := ⟨b1d.os, b1d.tape, b1d.output, b1d.size, b1d.block⟩
          have hI1 := hI.below (b1.mono hle)
          have cb1 := hI1.cb
          have rr1 := hI1.row k hkn
          obtain ⟨r1, rf1⟩ := rr1
          clear b1d
          refine hK _ _ ?_
          clear hK K
          refine wpAnyIn_ready (rs := [5]) (by kernel_rfl) (by simp) ?_
          refine AllReadyIn.cons rfl (fun K hK => ?_) AllReadyIn.nil
          go_simp
          refine hK _ _ ?_
          clear hK K
          refine wpAnyIn_ready (rs := [6]) (by kernel_rfl) (by simp) ?_
          refine AllReadyIn.cons rfl (fun K hK => ?_) AllReadyIn.nil
          go_simp
          refine hK _ _ ?_
          clear hK K
          refine wpAnyIn_done (by kernel_rfl) ?_ _
          exact ⟨((keepsOthers_below b1).trans (KeepsOthers.setCell _ _ _)).from _, (Mid.of_below (b1.mono hle)).setCell (p := ⟨w.heap.size + 1, k, none⟩) (.inl ⟨by show w.heap.size ≤ w.heap.size + 1; omega, by show w.heap.size + 1 < w.heap.size + 3; omega⟩) _, by show FlI w n wd sl (flA wd sl xs ys) (vals (pre ++ [⟨k, hkn⟩])) _; rw [vals_snoc]; exact hI1.set hkn _ HQ2.out⟩
        · go_simp
          refine hK _ _ ?_
          clear hK K
          refine wpAnyIn_ready (rs := [2]) (by kernel_rfl) (by simp) ?_
          refine AllReadyIn.cons rfl (fun K hK => ?_) AllReadyIn.nil
          go_simp
          refine hK _ _ ?_
          clear hK K
          refine wpAnyIn_ready (rs := [4]) (by kernel_rfl) (by simp) ?_
          refine AllReadyIn.cons rfl (fun K hK => ?_) AllReadyIn.nil
          go_simp
          refine ⟨trivial, ?_⟩
          refine (CallsIn.inRound l (callsIn_wide.2 (flowI_t wd sl u v _ HS.out HU.out HV.out q HQ.out))).mono ?_
          rintro e1 W1 ⟨rfl, b1d⟩
          have b1 : Below W.heap.size W W1 := ⟨b1d.os, b1d.tape, b1d.output, b1d.size, b1d.block⟩
          have hI1 := hI.below (b1.mono hle)
          have cb1 := hI1.cb
          have rr1 := hI1.row k hkn
          obtain ⟨r1, rf1⟩ := rr1
          clear b1d
          refine hK _ _ ?_
          clear hK K
          refine wpAnyIn_ready (rs := [5]) (by kernel_rfl) (by simp) ?_
          refine AllReadyIn.cons rfl (fun K hK => ?_) AllReadyIn.nil
          go_simp
          refine hK _ _ ?_
          clear hK K
          refine wpAnyIn_ready (rs := [6]) (by kernel_rfl) (by simp) ?_
          refine AllReadyIn.cons rfl (fun K hK => ?_) AllReadyIn.nil
          go_simp
          refine hK _ _ ?_
          clear hK K
          refine wpAnyIn_done (by kernel_rfl) ?_ _
          exact ⟨((keepsOthers_below b1).trans (KeepsOthers.setCell _ _ _)).from _, (Mid.of_below (b1.mono hle)).setCell (p := ⟨w.heap.size + 1, k, none⟩) (.inl ⟨by show w.heap.size ≤ w.heap.size + 1; omega, by show w.heap.size + 1 < w.heap.size + 3; omega⟩) _, by show FlI w n wd sl (flA wd sl xs ys) (vals (pre ++ [⟨k, hkn⟩])) _; rw [vals_snoc]; exact hI1.set hkn _ HQ2.out⟩
      · go_simp
        refine hK _ _ ?_
        clear hK K
        refine wpAnyIn_ready (rs := [1, 3]) (by kernel_rfl) (by simp) ?_
        refine AllReadyIn.cons rfl (fun K hK => ?_) (AllReadyIn.cons rfl (fun K hK => ?_) AllReadyIn.nil)
        · go_simp
          refine hK _ _ ?_
          clear hK K
          refine wpAnyIn_ready (rs := [3]) (by kernel_rfl) (by simp) ?_
          refine AllReadyIn.cons rfl (fun K hK => ?_) AllReadyIn.nil
          go_simp
          refine hK _ _ ?_
          clear hK K
          refine wpAnyIn_ready (rs := [4]) (by kernel_rfl) (by simp) ?_
          refine AllReadyIn.cons rfl (fun K hK => ?_) AllReadyIn.nil
          go_simp
          refine ⟨trivial, ?_⟩
          refine (CallsIn.inRound l (callsIn_wide.2 (flowI_t wd sl u v _ HS.out HU.out HV.out q HQ.out))).mono ?_
          rintro e1 W1 ⟨rfl, b1d⟩
          have b1 : Below W.heap.size W W1 := ⟨b1d.os, b1d.tape, b1d.output, b1d.size, b1d.block⟩
          have hI1 := hI.below (b1.mono hle)
          have cb1 := hI1.cb
          have rr1 := hI1.row k hkn
          obtain ⟨r1, rf1⟩ := rr1
          clear b1d
          refine hK _ _ ?_
          clear hK K
          refine wpAnyIn_ready (rs := [5]) (by kernel_rfl) (by simp) ?_
          refine AllReadyIn.cons rfl (fun K hK => ?_) AllReadyIn.nil
          go_simp
          refine hK _ _ ?_
          clear hK K
          refine wpAnyIn_ready (rs := [6]) (by kernel_rfl) (by simp) ?_
          refine AllReadyIn.cons rfl (fun K hK => ?_) AllReadyIn.nil
          go_simp
          refine hK _ _ ?_
          clear hK K
          refine wpAnyIn_done (by kernel_rfl) ?_ _
          exact ⟨((keepsOthers_below b1).trans (KeepsOthers.setCell _ _ _)).from _, (Mid.of_below (b1.mono hle)).setCell (p := ⟨w.heap.size + 1, k, none⟩) (.inl ⟨by show w.heap.size ≤ w.heap.size + 1; omega, by show w.heap.size + 1 < w.heap.size + 3; omega⟩) _, by show FlI w n wd sl (flA wd sl xs ys) (vals (pre ++ [⟨k, hkn⟩])) _; rw [vals_snoc]; exact hI1.set hkn _ HQ2.out⟩
        · go_simp
          refine hK _ _ ?_
          clear hK K
          refine wpAnyIn_ready (rs := [1, 4]) (by kernel_rfl) (by simp) ?_
          refine AllReadyIn.cons rfl (fun K hK => ?_) (AllReadyIn.cons rfl (fun K hK => ?_) AllReadyIn.nil)
          · go_simp
            refine hK _ _ ?_
            clear hK K
            refine wpAnyIn_ready (rs := [4]) (by kernel_rfl) (by simp) ?_
            refine AllReadyIn.cons rfl (fun K hK => ?_) AllReadyIn.nil
            go_simp
            refine ⟨trivial, ?_⟩
            refine (CallsIn.inRound l (callsIn_wide.2 (flowI_t wd sl u v _ HS.out HU.out HV.out q HQ.out))).mono ?_
            rintro e1 W1 ⟨rfl, b1d⟩
            have b1 : Below W.heap.size W W1 := ⟨b1d.os, b1d.tape, b1d.output, b1d.size, b1d.block⟩
            have hI1 := hI.below (b1.mono hle)
            have cb1 := hI1.cb
            have rr1 := hI1.row k hkn
            obtain ⟨r1, rf1⟩ := rr1
            clear b1d
            refine hK _ _ ?_
            clear hK K
            refine wpAnyIn_ready (rs := [5]) (by kernel_rfl) (by simp) ?_
            refine AllReadyIn.cons rfl (fun K hK => ?_) AllReadyIn.nil
            go_simp
            refine hK _ _ ?_
            clear hK K
            refine wpAnyIn_ready (rs := [6]) (by kernel_rfl) (by simp) ?_
            refine AllReadyIn.cons rfl (fun K hK => ?_) AllReadyIn.nil
            go_simp
            refine hK _ _ ?_
            clear hK K
            refine wpAnyIn_done (by kernel_rfl) ?_ _
            exact ⟨((keepsOthers_below b1).trans (KeepsOthers.setCell _ _ _)).from _, (Mid.of_below (b1.mono hle)).setCell (p := ⟨w.heap.size + 1, k, none⟩) (.inl ⟨by show w.heap.size ≤ w.heap.size + 1; omega, by show w.heap.size + 1 < w.heap.size + 3; omega⟩) _, by show FlI w n wd sl (flA wd sl xs ys) (vals (pre ++ [⟨k, hkn⟩])) _; rw [vals_snoc]; exact hI1.set hkn _ HQ2.out⟩
          · go_simp
            refine ⟨trivial, ?_⟩
            refine (CallsIn.inRound l (callsIn_wide.2 (flowI_t wd sl u v _ HS.out HU.out HV.out q HQ.out))).mono ?_
            rintro e1 W1 ⟨rfl, b1d⟩
            have b1 : Below W.heap.size W W1 := ⟨b1d.os, b1d.tape, b1d.output, b1d.size, b1d.block⟩
            have hI1 := hI.below (b1.mono hle)
            have cb1 := hI1.cb
            have rr1 := hI1.row k hkn
            obtain ⟨r1, rf1⟩ := rr1
            clear b1d
            refine hK _ _ ?_
            clear hK K
            refine wpAnyIn_ready (rs := [1]) (by kernel_rfl) (by simp) ?_
            refine AllReadyIn.cons rfl (fun K hK => ?_) AllReadyIn.nil
            go_simp
            refine hK _ _ ?_
            clear hK K
            refine wpAnyIn_ready (rs := [5]) (by kernel_rfl) (by simp) ?_
            refine AllReadyIn.cons rfl (fun K hK => ?_) AllReadyIn.nil
            go_simp
            refine hK _ _ ?_
            clear hK K
            refine wpAnyIn_ready (rs := [6]) (by kernel_rfl) (by simp) ?_
            refine AllReadyIn.cons rfl (fun K hK => ?_) AllReadyIn.nil
            go_simp
            refine hK _ _ ?_
            clear hK K
            refine wpAnyIn_done (by kernel_rfl) ?_ _
            exact ⟨((keepsOthers_below b1).trans (KeepsOthers.setCell _ _ _)).from _, (Mid.of_below (b1.mono hle)).setCell (p := ⟨w.heap.size + 1, k, none⟩) (.inl ⟨by show w.heap.size ≤ w.heap.size + 1; omega, by show w.heap.size + 1 < w.heap.size + 3; omega⟩) _, by show FlI w n wd sl (flA wd sl xs ys) (vals (pre ++ [⟨k, hkn⟩])) _; rw [vals_snoc]; exact hI1.set hkn _ HQ2.out⟩
      · go_simp
        refine hK _ _ ?_
        clear hK K
        refine wpAnyIn_ready (rs := [1, 2]) (by kernel_rfl) (by simp) ?_
        refine AllReadyIn.cons rfl (fun K hK => ?_) (AllReadyIn.cons rfl (fun K hK => ?_) AllReadyIn.nil)
        · go_simp
          refine hK _ _ ?_
          clear hK K
          refine wpAnyIn_ready (rs := [2]) (by kernel_rfl) (by simp) ?_
          refine AllReadyIn.cons rfl (fun K hK => ?_) AllReadyIn.nil
          go_simp
          refine hK _ _ ?_
          clear hK K
          refine wpAnyIn_ready (rs := [4]) (by kernel_rfl) (by simp) ?_
          refine AllReadyIn.cons rfl (fun K hK => ?_) AllReadyIn.nil
          go_simp
          refine ⟨trivial, ?_⟩
          refine (CallsIn.inRound l (callsIn_wide.2 (flowI_t wd sl u v _ HS.out HU.out HV.out q HQ.out))).mono ?_
          rintro e1 W1 ⟨rfl, b1d⟩
          have b1 : Below W.heap.size W W1 := ⟨b1d.os, b1d.tape, b1d.output, b1d.size, b1d.block⟩
          have hI1 := hI.below (b1.mono hle)
          have cb1 := hI1.cb
          have rr1 := hI1.row k hkn
          obtain ⟨r1, rf1⟩ := rr1
          clear b1d
          refine hK _ _ ?_
          clear hK K
          refine wpAnyIn_ready (rs := [5]) (by kernel_rfl) (by simp) ?_
          refine AllReadyIn.cons rfl (fun K hK => ?_) AllReadyIn.nil
          go_simp
          refine hK _ _ ?_
          clear hK K
          refine wpAnyIn_ready (rs := [6]) (by kernel_rfl) (by simp) ?_
          refine AllReadyIn.cons rfl (fun K hK => ?_) AllReadyIn.nil
          go_simp
          refine hK _ _ ?_
          clear hK K
          refine wpAnyIn_done (by kernel_rfl) ?_ _
          exact ⟨((keepsOthers_below b1).trans (KeepsOthers.setCell _ _ _)).from _, (Mid.of_below (b1.mono hle)).setCell (p := ⟨w.heap.size + 1, k, none⟩) (.inl ⟨by show w.heap.size ≤ w.heap.size + 1; omega, by show w.heap.size + 1 < w.heap.size + 3; omega⟩) _, by show FlI w n wd sl (flA wd sl xs ys) (vals (pre ++ [⟨k, hkn⟩])) _; rw [vals_snoc]; exact hI1.set hkn _ HQ2.out⟩
        · go_simp
          refine hK _ _ ?_
          clear hK K
          refine wpAnyIn_ready (rs := [1, 4]) (by kernel_rfl) (by simp) ?_
          refine AllReadyIn.cons rfl (fun K hK => ?_) (AllReadyIn.cons rfl (fun K hK => ?_) AllReadyIn.nil)
          · go_simp
            refine hK _ _ ?_
            clear hK K
            refine wpAnyIn_ready (rs := [4]) (by kernel_rfl) (by simp) ?_
            refine AllReadyIn.cons rfl (fun K hK => ?_) AllReadyIn.nil
            go_simp
            refine ⟨trivial, ?_⟩
            refine (CallsIn.inRound l (callsIn_wide.2 (flowI_t wd sl u v _ HS.out HU.out HV.out q HQ.out))).mono ?_
            rintro e1 W1 ⟨rfl, b1d⟩
            have b1 : Below W.heap.size W W1 := ⟨b1d.os, b1d.tape, b1d.output, b1d.size, b1d.block⟩
            have hI1 := hI.below (b1.mono hle)
            have cb1 := hI1.cb
            have rr1 := hI1.row k hkn
            obtain ⟨r1, rf1⟩ := rr1
            clear b1d
            refine hK _ _ ?_
            clear hK K
            refine wpAnyIn_ready (rs := [5]) (by kernel_rfl) (by simp) ?_
            refine AllReadyIn.cons rfl (fun K hK => ?_) AllReadyIn.nil
            go_simp
            refine hK _ _ ?_
            clear hK K
            refine wpAnyIn_ready (rs := [6]) (by kernel_rfl) (by simp) ?_
            refine AllReadyIn.cons rfl (fun K hK => ?_) AllReadyIn.nil
            go_simp
            refine hK _ _ ?_
            clear hK K
            refine wpAnyIn_done (by kernel_rfl) ?_ _
            exact ⟨((keepsOthers_below b1).trans (KeepsOthers.setCell _ _ _)).from _, (Mid.of_below (b1.mono hle)).setCell (p := ⟨w.heap.size + 1, k, none⟩) (.inl ⟨by show w.heap.size ≤ w.heap.size + 1; omega, by show w.heap.size + 1 < w.heap.size + 3; omega⟩) _, by show FlI w n wd sl (flA wd sl xs ys) (vals (pre ++ [⟨k, hkn⟩])) _; rw [vals_snoc]; exact hI1.set hkn _ HQ2.out⟩
          · go_simp
            refine ⟨trivial, ?_⟩
            refine (CallsIn.inRound l (callsIn_wide.2 (flowI_t wd sl u v _ HS.out HU.out HV.out q HQ.out))).mono ?_
            rintro e1 W1 ⟨rfl, b1d⟩
            have b1 : Below W.heap.size W W1 := ⟨b1d.os, b1d.tape, b1d.output, b1d.size, b1d.block⟩
            have hI1 := hI.below (b1.mono hle)
            have cb1 := hI1.cb
            have rr1 := hI1.row k hkn
            obtain ⟨r1, rf1⟩ := rr1
            clear b1d
            refine hK _ _ ?_
            clear hK K
            refine wpAnyIn_ready (rs := [1]) (by kernel_rfl) (by simp) ?_
            refine AllReadyIn.cons rfl (fun K hK => ?_) AllReadyIn.nil
            go_simp
            refine hK _ _ ?_
            clear hK K
            refine wpAnyIn_ready (rs := [5]) (by kernel_rfl) (by simp) ?_
            refine AllReadyIn.cons rfl (fun K hK => ?_) AllReadyIn.nil
            go_simp
            refine hK _ _ ?_
            clear hK K
            refine wpAnyIn_ready (rs := [6]) (by kernel_rfl) (by simp) ?_
            refine AllReadyIn.cons rfl (fun K hK => ?_) AllReadyIn.nil
            go_simp
            refine hK _ _ ?_
            clear hK K
            refine wpAnyIn_done (by kernel_rfl) ?_ _
            exact ⟨((keepsOthers_below b1).trans (KeepsOthers.setCell _ _ _)).from _, (Mid.of_below (b1.mono hle)).setCell (p := ⟨w.heap.size + 1, k, none⟩) (.inl ⟨by show w.heap.size ≤ w.heap.size + 1; omega, by show w.heap.size + 1 < w.heap.size + 3; omega⟩) _, by show FlI w n wd sl (flA wd sl xs ys) (vals (pre ++ [⟨k, hkn⟩])) _; rw [vals_snoc]; exact hI1.set hkn _ HQ2.out⟩
    · go_simp
      refine hK _ _ ?_
      clear hK K
      refine wpAnyIn_ready (rs := [0, 2, 3]) (by kernel_rfl) (by simp) ?_
      refine AllReadyIn.cons rfl (fun K hK => ?_) (AllReadyIn.cons rfl (fun K hK => ?_) (AllReadyIn.cons rfl (fun K hK => ?_) AllReadyIn.nil))
      · go_simp
        refine hK _ _ ?_
        clear hK K
        refine wpAnyIn_ready (rs := [2, 3]) (by kernel_rfl) (by simp) ?_
        refine AllReadyIn.cons rfl (fun K hK => ?_) (AllReadyIn.cons rfl (fun K hK => ?_) AllReadyIn.nil)
        · go_simp
          refine hK _ _ ?_
          clear hK K
          refine wpAnyIn_ready (rs := [3]) (by kernel_rfl) (by simp) ?_
          refine AllReadyIn.cons rfl (fun K hK => ?_) AllReadyIn.nil
          go_simp
          refine hK _ _ ?_
          clear hK K
          refine wpAnyIn_ready (rs := [4]) (by kernel_rfl) (by simp) ?_
          refine AllReadyIn.cons rfl (fun K hK => ?_) AllReadyIn.nil
          go_simp
          refine ⟨trivial, ?_⟩
          refine (CallsIn.inRound l (callsIn_wide.2 (flowI_t wd sl u v _ HS.out HU.out HV.out q HQ.out))).mono ?_
          rintro e1 W1 ⟨rfl, b1d⟩
          have b1 : Below W.heap.size W W1 := ⟨b1d.os, b1d.tape, b1d.output, b1d.size, b1d.block⟩
          have hI1 := hI.below (b1.mono hle)
          have cb1 := hI1.cb
          have rr1 := hI1.row k hkn
          obtain ⟨r1, rf1⟩ := rr1
          clear b1d
          refine hK _ _ ?_
          clear hK K
          refine wpAnyIn_ready (rs := [5]) (by kernel_rfl) (by simp) ?_
          refine AllReadyIn.cons rfl (fun K hK => ?_) AllReadyIn.nil
          go_simp
          refine hK _ _ ?_
          clear hK K
          refine wpAnyIn_ready (rs := [6]) (by kernel_rfl) (by simp) ?_
          refine AllReadyIn.cons rfl (fun K hK => ?_) AllReadyIn.nil
          go_simp
          refine hK _ _ ?_
          clear hK K
          refine wpAnyIn_done (by kernel_rfl) ?_ _
          exact ⟨((keepsOthers_below b1).trans (KeepsOthers.setCell _ _ _)).from _, (Mid.of_below (b1.mono hle)).setCell (p := ⟨w.heap.size + 1, k, none⟩) (.inl ⟨by show w.heap.size ≤ w.heap.size + 1; omega, by show w.heap.size + 1 < w.heap.size + 3; omega⟩) _, by show FlI w n wd sl (flA wd sl xs ys) (vals (pre ++ [⟨k, hkn⟩])) _; rw [vals_snoc]; exact hI1.set hkn _ HQ2.out⟩
        · go_simp
          refine hK _ _ ?_
          clear hK K
          refine wpAnyIn_ready (rs := [2]) (by kernel_rfl) (by simp) ?_
          refine AllReadyIn.cons rfl (fun K hK => ?_) AllReadyIn.nil
          go_simp
          refine hK _ _ ?_
          clear hK K
          refine wpAnyIn_ready (rs := [4]) (by kernel_rfl) (by simp) ?_
          refine AllReadyIn.cons rfl (fun K hK => ?_) AllReadyIn.nil
          go_simp
          refine ⟨trivial, ?_⟩
          refine (CallsIn.inRound l (callsIn_wide.2 (flowI_t wd sl u v _ HS.out HU.out HV.out q HQ.out))).mono ?_
          rintro e1 W1 ⟨rfl, b1d⟩
          have b1 : Below W.heap.size W W1 := ⟨b1d.os, b1d.tape, b1d.output, b1d.size, b1d.block⟩
          have hI1 := hI.below (b1.mono hle)
          have cb1 := hI1.cb
          have rr1 := hI1.row k hkn
          obtain ⟨r1, rf1⟩ := rr1
          clear b1d
          refine hK _ _ ?_
          clear hK K
          refine wpAnyIn_ready (rs := [5]) (by kernel_rfl) (by simp) ?_
          refine AllReadyIn.cons rfl (fun K hK => ?_) AllReadyIn.nil
          go_simp
          refine hK _ _ ?_
          clear hK K
          refine wpAnyIn_ready (rs := [6]) (by kernel_rfl) (by simp) ?_
          refine AllReadyIn.cons rfl (fun K hK => ?_) AllReadyIn.nil
          go_simp
          refine hK _ _ ?_
          clear hK K
          refine wpAnyIn_done (by kernel_rfl) ?_ _
          exact ⟨((keepsOthers_below b1).trans (KeepsOthers.setCell _ _ _)).from _, (Mid.of_below (b1.mono hle)).setCell (p := ⟨w.heap.size + 1, k, none⟩) (.inl ⟨by show w.heap.size ≤ w.heap.size + 1; omega, by show w.heap.size + 1 < w.heap.size + 3; omega⟩) _, by show FlI w n wd sl (flA wd sl xs ys) (vals (pre ++ [⟨k, hkn⟩])) _; rw [vals_snoc]; exact hI1.set hkn _ HQ2.out⟩
      · go_simp
        refine hK _ _ ?_
        clear hK K
        refine wpAnyIn_ready (rs := [0, 3]) (by kernel_rfl) (by simp) ?_
        refine AllReadyIn.cons rfl (fun K hK => ?_) (AllReadyIn.cons rfl (fun K hK => ?_) AllReadyIn.nil)
        · go_simp
          refine hK _ _ ?_
          clear hK K
          refine wpAnyIn_ready (rs := [3]) (by kernel_rfl) (by simp) ?_
          refine AllReadyIn.cons rfl (fun K hK => ?_) AllReadyIn.nil
          go_simp
          refine hK _ _ ?_
          clear hK K
          refine wpAnyIn_ready (rs := [4]) (by kernel_rfl) (by simp) ?_
          refine AllReadyIn.cons rfl (fun K hK => ?_) AllReadyIn.nil
          go_simp
          refine ⟨trivial, ?_⟩
          refine (CallsIn.inRound l (callsIn_wide.2 (flowI_t wd sl u v _ HS.out HU.out HV.out q HQ.out))).mono ?_
          rintro e1 W1 ⟨rfl, b1d⟩
          have b1 : Below W.heap.size W W1 := ⟨b1d.os, b1d.tape, b1d.output, b1d.size, b1d.block⟩
          have hI1 := hI.below (b1.mono hle)
          have cb1 := hI1.cb
          have rr1 := hI1.row k hkn
          obtain ⟨r1, rf1⟩ := rr1
          clear b1d
          refine hK _ _ ?_
          clear hK K
          refine wpAnyIn_ready (rs := [5]) (by kernel_rfl) (by simp) ?_
          refine AllReadyIn.cons rfl (fun K hK => ?_) AllReadyIn.nil
          go_simp
          refine hK _ _ ?_
          clear hK K
          refine wpAnyIn_ready (rs := [6]) (by kernel_rfl) (by simp) ?_
          refine AllReadyIn.cons rfl (fun K hK => ?_) AllReadyIn.nil
          go_simp
          refine hK _ _ ?_
          clear hK K
          refine wpAnyIn_done (by kernel_rfl) ?_ _
          exact ⟨((keepsOthers_below b1).trans (KeepsOthers.setCell _ _ _)).from _, (Mid.of_below (b1.mono hle)).setCell (p := ⟨w.heap.size + 1, k, none⟩) (.inl ⟨by show w.heap.size ≤ w.heap.size + 1; omega, by show w.heap.size + 1 < w.heap.size + 3; omega⟩) _, by show FlI w n wd sl (flA wd sl xs ys) (vals (pre ++ [⟨k, hkn⟩])) _; rw [vals_snoc]; exact hI1.set hkn _ HQ2.out⟩
        · go_simp
          refine hK _ _ ?_
          clear hK K
          refine wpAnyIn_ready (rs := [0, 4]) (by kernel_rfl) (by simp) ?_
          refine AllReadyIn.cons rfl (fun K hK => ?_) (AllReadyIn.cons rfl (fun K hK => ?_) AllReadyIn.nil)
          · go_simp
            refine hK _ _ ?_
            clear hK K
            refine wpAnyIn_ready (rs := [4]) (by kernel_rfl) (by simp) ?_
            refine AllReadyIn.cons rfl (fun K hK => ?_) AllReadyIn.nil
            go_simp
            refine ⟨trivial, ?_⟩
            refine (CallsIn.inRound l (callsIn_wide.2 (flowI_t wd sl u v _ HS.out HU.out HV.out q HQ.out))).mono ?_
            rintro e1 W1 ⟨rfl, b1d⟩
            have b1 : Below W.heap.size W W1 := ⟨b1d.os, b1d.tape, b1d.output, b1d.size, b1d.block⟩
            have hI1 := hI.below (b1.mono hle)
            have cb1 := hI1.cb
            have rr1 := hI1.row k hkn
            obtain ⟨r1, rf1⟩ := rr1
            clear b1d
            refine hK _ _ ?_
            clear hK K
            refine wpAnyIn_ready (rs := [5]) (by kernel_rfl) (by simp) ?_
            refine AllReadyIn.cons rfl (fun K hK => ?_) AllReadyIn.nil
            go_simp
            refine hK _ _ ?_
            clear hK K
            refine wpAnyIn_ready (rs := [6]) (by kernel_rfl) (by simp) ?_
            refine AllReadyIn.cons rfl (fun K hK => ?_) AllReadyIn.nil
            go_simp
            refine hK _ _ ?_
            clear hK K
            refine wpAnyIn_done (by kernel_rfl) ?_ _
            exact ⟨((keepsOthers_below b1).trans (KeepsOthers.setCell _ _ _)).from _, (Mid.of_below (b1.mono hle)).setCell (p := ⟨w.heap.size + 1, k, none⟩) (.inl ⟨by show w.heap.size ≤ w.heap.size + 1; omega, by show w.heap.size + 1 < w.heap.size + 3; omega⟩) _, by show FlI w n wd sl (flA wd sl xs ys) (vals (pre ++ [⟨k, hkn⟩])) _; rw [vals_snoc]; exact hI1.set hkn _ HQ2.out⟩
          · go_simp
            refine ⟨trivial, ?_⟩
            refine (CallsIn.inRound l (callsIn_wide.2 (flowI_t wd sl u v _ HS.out HU.out HV.out q HQ.out))).mono ?_
            rintro e1 W1 ⟨rfl, b1d⟩
            have b1 : Below W.heap.size W W1 := ⟨b1d.os, b1d.tape, b1d.output, b1d.size, b1d.block⟩
            have hI1 := hI.below (b1.mono hle)
            have cb1 := hI1.cb
            have rr1 := hI1.row k hkn
            obtain ⟨r1, rf1⟩ := rr1
            clear b1d
            refine hK _ _ ?_
            clear hK K
            refine wpAnyIn_ready (rs := [0]) (by kernel_rfl) (by simp) ?_
            refine AllReadyIn.cons rfl (fun K hK => ?_) AllReadyIn.nil
            go_simp
            refine hK _ _ ?_
            clear hK K
            refine wpAnyIn_ready (rs := [5]) (by kernel_rfl) (by simp) ?_
            refine AllReadyIn.cons rfl (fun K hK => ?_) AllReadyIn.nil
            go_simp
            refine hK _ _ ?_
            clear hK K
            refine wpAnyIn_ready (rs := [6]) (by kernel_rfl) (by simp) ?_
            refine AllReadyIn.cons rfl (fun K hK => ?_) AllReadyIn.nil
            go_simp
            refine hK _ _ ?_
            clear hK K
            refine wpAnyIn_done (by kernel_rfl) ?_ _
            exact ⟨((keepsOthers_below b1).trans (KeepsOthers.setCell _ _ _)).from _, (Mid.of_below (b1.mono hle)).setCell (p := ⟨w.heap.size + 1, k, none⟩) (.inl ⟨by show w.heap.size ≤ w.heap.size + 1; omega, by show w.heap.size + 1 < w.heap.size + 3; omega⟩) _, by show FlI w n wd sl (flA wd sl xs ys) (vals (pre ++ [⟨k, hkn⟩])) _; rw [vals_snoc]; exact hI1.set hkn _ HQ2.out⟩
      · go_simp
        refine hK _ _ ?_
        clear hK K
        refine wpAnyIn_ready (rs := [0, 2]) (by kernel_rfl) (by simp) ?_
        refine AllReadyIn.cons rfl (fun K hK => ?_) (AllReadyIn.cons rfl (fun K hK => ?_) AllReadyIn.nil)
        · go_simp
          refine hK _ _ ?_
          clear hK K
          refine wpAnyIn_ready (rs := [2]) (by kernel_rfl) (by simp) ?_
          refine AllReadyIn.cons rfl (fun K hK => ?_) AllReadyIn.nil
          go_simp
          refine hK _ _ ?_
          clear hK K
          refine wpAnyIn_ready (rs := [4]) (by kernel_rfl) (by simp) ?_
          refine AllReadyIn.cons rfl (fun K hK => ?_) AllReadyIn.nil
          go_simp
          refine ⟨trivial, ?_⟩
          refine (CallsIn.inRound l (callsIn_wide.2 (flowI_t wd sl u v _ HS.out HU.out HV.out q HQ.out))).mono ?_
          rintro e1 W1 ⟨rfl, b1d⟩
          have b1 : Below W.heap.size W W1 := ⟨b1d.os, b1d.tape, b1d.output, b1d.size, b1d.block⟩
          have hI1 := hI.below (b1.mono hle)
          have cb1 := hI1.cb
          have rr1 := hI1.row k hkn
          obtain ⟨r1, rf1⟩ := rr1
          clear b1d
          refine hK _ _ ?_
          clear hK K
          refine wpAnyIn_ready (rs := [5]) (by kernel_rfl) (by simp) ?_
          refine AllReadyIn.cons rfl (fun K hK => ?_) AllReadyIn.nil
          go_simp
          refine hK _ _ ?_
          clear hK K
          refine wpAnyIn_ready (rs := [6]) (by kernel_rfl) (by simp) ?_
          refine AllReadyIn.cons rfl (fun K hK => ?_) AllReadyIn.nil
          go_simp
          refine hK _ _ ?_
          clear hK K
          refine wpAnyIn_done (by kernel_rfl) ?_ _
          exact ⟨((keepsOthers_below b1).trans (KeepsOthers.setCell _ _ _)).from _, (Mid.of_below (b1.mono hle)).setCell (p := ⟨w.heap.size + 1, k, none⟩) (.inl ⟨by show w.heap.size ≤ w.heap.size + 1; omega, by show w.heap.size + 1 < w.heap.size + 3; omega⟩) _, by show FlI w n wd sl (flA wd sl xs ys) (vals (pre ++ [⟨k, hkn⟩])) _; rw [vals_snoc]; exact hI1.set hkn _ HQ2.out⟩
        · go_simp
          refine hK _ _ ?_
          clear hK K
          refine wpAnyIn_ready (rs := [0, 4]) (by kernel_rfl) (by simp) ?_
          refine AllReadyIn.cons rfl (fun K hK => ?_) (AllReadyIn.cons rfl (fun K hK => ?_) AllReadyIn.nil)
          · go_simp
            refine hK _ _ ?_
            clear hK K
            refine wpAnyIn_ready (rs := [4]) (by kernel_rfl) (by simp) ?_
            refine AllReadyIn.cons rfl (fun K hK => ?_) AllReadyIn.nil
            go_simp
            refine ⟨trivial, ?_⟩
            refine (CallsIn.inRound l (callsIn_wide.2 (flowI_t wd sl u v _ HS.out HU.out HV.out q HQ.out))).mono ?_
            rintro e1 W1 ⟨rfl, b1d⟩
            have b1 : Below W.heap.size W W1 := ⟨b1d.os, b1d.tape, b1d.output, b1d.size, b1d.block⟩
            have hI1 := hI.below (b1.mono hle)
            have cb1 := hI1.cb
            have rr1 := hI1.row k hkn
            obtain ⟨r1, rf1⟩ := rr1
            clear b1d
            refine hK _ _ ?_
            clear hK K
            refine wpAnyIn_ready (rs := [5]) (by kernel_rfl) (by simp) ?_
            refine AllReadyIn.cons rfl (fun K hK => ?_) AllReadyIn.nil
            go_simp
            refine hK _ _ ?_
            clear hK K
            refine wpAnyIn_ready (rs := [6]) (by kernel_rfl) (by simp) ?_
            refine AllReadyIn.cons rfl (fun K hK => ?_) AllReadyIn.nil
            go_simp
            refine hK _ _ ?_
            clear hK K
            refine wpAnyIn_done (by kernel_rfl) ?_ _
            exact ⟨((keepsOthers_below b1).trans (KeepsOthers.setCell _ _ _)).from _, (Mid.of_below (b1.mono hle)).setCell (p := ⟨w.heap.size + 1, k, none⟩) (.inl ⟨by show w.heap.size ≤ w.heap.size + 1; omega, by show w.heap.size + 1 < w.heap.size + 3; omega⟩) _, by show FlI w n wd sl (flA wd sl xs ys) (vals (pre ++ [⟨k, hkn⟩])) _; rw [vals_snoc]; exact hI1.set hkn _ HQ2.out⟩
          · go_simp
            refine ⟨trivial, ?_⟩
            refine (CallsIn.inRound l (callsIn_wide.2 (flowI_t wd sl u v _ HS.out HU.out HV.out q HQ.out))).mono ?_
            rintro e1 W1 ⟨rfl, b1d⟩
            have b1 : Below W.heap.size W W1 := ⟨b1d.os, b1d.tape, b1d.output, b1d.size, b1d.block⟩
            have hI1 := hI.below (b1.mono hle)
            have cb1 := hI1.cb
            have rr1 := hI1.row k hkn
            obtain ⟨r1, rf1⟩ := rr1
            clear b1d
            refine hK _ _ ?_
            clear hK K
            refine wpAnyIn_ready (rs := [0]) (by kernel_rfl) (by simp) ?_
            refine AllReadyIn.cons rfl (fun K hK => ?_) AllReadyIn.nil
            go_simp
            refine hK _ _ ?_
            clear hK K
            refine wpAnyIn_ready (rs := [5]) (by kernel_rfl) (by simp) ?_
            refine AllReadyIn.cons rfl (fun K hK => ?_) AllReadyIn.nil
            go_simp
            refine hK _ _ ?_
            clear hK K
            refine wpAnyIn_ready (rs := [6]) (by kernel_rfl) (by simp) ?_
            refine AllReadyIn.cons rfl (fun K hK => ?_) AllReadyIn.nil
            go_simp
            refine hK _ _ ?_
            clear hK K
            refine wpAnyIn_done (by kernel_rfl) ?_ _
            exact ⟨((keepsOthers_below b1).trans (KeepsOthers.setCell _ _ _)).from _, (Mid.of_below (b1.mono hle)).setCell (p := ⟨w.heap.size + 1, k, none⟩) (.inl ⟨by show w.heap.size ≤ w.heap.size + 1; omega, by show w.heap.size + 1 < w.heap.size + 3; omega⟩) _, by show FlI w n wd sl (flA wd sl xs ys) (vals (pre ++ [⟨k, hkn⟩])) _; rw [vals_snoc]; exact hI1.set hkn _ HQ2.out⟩
    · go_simp
      refine hK _ _ ?_
      clear hK K
      refine wpAnyIn_ready (rs := [0, 1, 3]) (by kernel_rfl) (by simp) ?_
      refine AllReadyIn.cons rfl (fun K hK => ?_) (AllReadyIn.cons rfl (fun K hK => ?_) (AllReadyIn.cons rfl (fun K hK => ?_) AllReadyIn.nil))
      · go_simp
        refine hK _ _ ?_
        clear hK K
        refine wpAnyIn_ready (rs := [1, 3]) (by kernel_rfl) (by simp) ?_
        refine AllReadyIn.cons rfl (fun K hK => ?_) (AllReadyIn.cons rfl (fun K hK => ?_) AllReadyIn.nil)
        · go_simp
          refine hK _ _ ?_
          clear hK K
          refine wpAnyIn_ready (rs := [3]) (by kernel_rfl) (by simp) ?_
          refine AllReadyIn.cons rfl (fun K hK => ?_) AllReadyIn.nil
          go_simp
          refine hK _ _ ?_
          clear hK K
          refine wpAnyIn_ready (rs := [4]) (by kernel_rfl) (by simp) ?_
          refine AllReadyIn.cons rfl (fun K hK => ?_) AllReadyIn.nil
          go_simp
          refine ⟨trivial, ?_⟩
          refine (CallsIn.inRound l (callsIn_wide.2 (flowI_t wd sl u v _ HS.out HU.out HV.out q HQ.out))).mono ?_
          rintro e1 W1 ⟨rfl, b1d⟩
          have b1 : Below W.heap.size W W1 := ⟨b1d.os, b1d.tape, b1d.output, b1d.size, b1d.block⟩
          have hI1 := hI.below (b1.mono hle)
          have cb1 := hI1.cb
          have rr1 := hI1.row k hkn
          obtain ⟨r1, rf1⟩ := rr1
          clear b1d
          refine hK _ _ ?_
          clear hK K
          refine wpAnyIn_ready (rs := [5]) (by kernel_rfl) (by simp) ?_
          refine AllReadyIn.cons rfl (fun K hK => ?_) AllReadyIn.nil
          go_simp
          refine hK _ _ ?_
          clear hK K
          refine wpAnyIn_ready (rs := [6]) (by kernel_rfl) (by simp) ?_
          refine AllReadyIn.cons rfl (fun K hK => ?_) AllReadyIn.nil
          go_simp
          refine hK _ _ ?_
          clear hK K
          refine wpAnyIn_done (by kernel_rfl) ?_ _
          exact ⟨((keepsOthers_below b1).trans (KeepsOthers.setCell _ _ _)).from _, (Mid.of_below (b1.mono hle)).setCell (p := ⟨w.heap.size + 1, k, none⟩) (.inl ⟨by show w.heap.size ≤ w.heap.size + 1; omega, by show w.heap.size + 1 < w.heap.size + 3; omega⟩) _, by show FlI w n wd sl (flA wd sl xs ys) (vals (pre ++ [⟨k, hkn⟩])) _; rw [vals_snoc]; exact hI1.set hkn _ HQ2.out⟩
        · go_simp
          refine hK _ _ ?_
          clear hK K
          refine wpAnyIn_ready (rs := [1, 4]) (by kernel_rfl) (by simp) ?_
          refine AllReadyIn.cons rfl (fun K hK => ?_) (AllReadyIn.cons rfl (fun K hK => ?_) AllReadyIn.nil)
          · go_simp
            refine hK _ _ ?_
            clear hK K
            refine wpAnyIn_ready (rs := [4]) (by kernel_rfl) (by simp) ?_
            refine AllReadyIn.cons rfl (fun K hK => ?_) AllReadyIn.nil
            go_simp
            refine ⟨trivial, ?_⟩
            refine (CallsIn.inRound l (callsIn_wide.2 (flowI_t wd sl u v _ HS.out HU.out HV.out q HQ.out))).mono ?_
            rintro e1 W1 ⟨rfl, b1d⟩
            have b1 : Below W.heap.size W W1 := ⟨b1d.os, b1d.tape, b1d.output, b1d.size, b1d.block⟩
            have hI1 := hI.below (b1.mono hle)
            have cb1 := hI1.cb
            have rr1 := hI1.row k hkn
            obtain ⟨r1, rf1⟩ := rr1
            clear b1d
            refine hK _ _ ?_
            clear hK K
            refine wpAnyIn_ready (rs := [5]) (by kernel_rfl) (by simp) ?_
            refine AllReadyIn.cons rfl (fun K hK => ?_) AllReadyIn.nil
            go_simp
            refine hK _ _ ?_
            clear hK K
            refine wpAnyIn_ready (rs := [6]) (by kernel_rfl) (by simp) ?_
            refine AllReadyIn.cons rfl (fun K hK => ?_) AllReadyIn.nil
            go_simp
            refine hK _ _ ?_
            clear hK K
            refine wpAnyIn_done (by kernel_rfl) ?_ _
            exact ⟨((keepsOthers_below b1).trans (KeepsOthers.setCell _ _ _)).from _, (Mid.of_below (b1.mono hle)).setCell (p := ⟨w.heap.size + 1, k, none⟩) (.inl ⟨by show w.heap.size ≤ w.heap.size + 1; omega, by show w.heap.size + 1 < w.heap.size + 3; omega⟩) _, by show FlI w n wd sl (flA wd sl xs ys) (vals (pre ++ [⟨k, hkn⟩])) _; rw [vals_snoc]; exact hI1.set hkn _ HQ2.out⟩
          · go_simp
            refine ⟨trivial, ?_⟩
            refine (CallsIn.inRound l (callsIn_wide.2 (flowI_t wd sl u v _ HS.out HU.out HV.out q HQ.out))).mono ?_
            rintro e1 W1 ⟨rfl, b1d⟩
            have b1 : Below W.heap.size W W1 := ⟨b1d.os, b1d.tape, b1d.output, b1d.size, b1d.block⟩
            have hI1 := hI.below (b1.mono hle)
            have cb1 := hI1.cb
            have rr1 := hI1.row k hkn
            obtain ⟨r1, rf1⟩ := rr1
            clear b1d
            refine hK _ _ ?_
            clear hK K
            refine wpAnyIn_ready (rs := [1]) (by kernel_rfl) (by simp) ?_
            refine AllReadyIn.cons rfl (fun K hK => ?_) AllReadyIn.nil
            go_simp
            refine hK _ _ ?_
            clear hK K
            refine wpAnyIn_ready (rs := [5]) (by kernel_rfl) (by simp) ?_
            refine AllReadyIn.cons rfl (fun K hK => ?_) AllReadyIn.nil
            go_simp
            refine hK _ _ ?_
            clear hK K
            refine wpAnyIn_ready (rs := [6]) (by kernel_rfl) (by simp) ?_
            refine AllReadyIn.cons rfl (fun K hK => ?_) AllReadyIn.nil
            go_simp
            refine hK _ _ ?_
            clear hK K
            refine wpAnyIn_done (by kernel_rfl) ?_ _
            exact ⟨((keepsOthers_below b1).trans (KeepsOthers.setCell _ _ _)).from _, (Mid.of_below (b1.mono hle)).setCell (p := ⟨w.heap.size + 1, k, none⟩) (.inl ⟨by show w.heap.size ≤ w.heap.size + 1; omega, by show w.heap.size + 1 < w.heap.size + 3; omega⟩) _, by show FlI w n wd sl (flA wd sl xs ys) (vals (pre ++ [⟨k, hkn⟩])) _; rw [vals_snoc]; exact hI1.set hkn _ HQ2.out⟩
      · go_simp
        refine hK _ _ ?_
        clear hK K
        refine wpAnyIn_ready (rs := [0, 3]) (by kernel_rfl) (by simp) ?_
        refine AllReadyIn.cons rfl (fun K hK => ?_) (AllReadyIn.cons rfl (fun K hK => ?_) AllReadyIn.nil)
        · go_simp
          refine hK _ _ ?_
          clear hK K
          refine wpAnyIn_ready (rs := [3]) (by kernel_rfl) (by simp) ?_
          refine AllReadyIn.cons rfl (fun K hK => ?_) AllReadyIn.nil
          go_simp
          refine hK _ _ ?_
          clear hK K
          refine wpAnyIn_ready (rs := [4]) (by kernel_rfl) (by simp) ?_
          refine AllReadyIn.cons rfl (fun K hK => ?_) AllReadyIn.nil
          go_simp
          refine ⟨trivial, ?_⟩
          refine (CallsIn.inRound l (callsIn_wide.2 (flowI_t wd sl u v _ HS.out HU.out HV.out q HQ.out))).mono ?_
          rintro e1 W1 ⟨rfl, b1d⟩
          have b1 : Below W.heap.size W W1 := ⟨b1d.os, b1d.tape, b1d.output, b1d.size, b1d.block⟩
          have hI1 := hI.below (b1.mono hle)
          have cb1 := hI1.cb
          have rr1 := hI1.row k hkn
          obtain ⟨r1, rf1⟩ := rr1
          clear b1d
          refine hK _ _ ?_
          clear hK K
          refine wpAnyIn_ready (rs := [5]) (by kernel_rfl) (by simp) ?_
          refine AllReadyIn.cons rfl (fun K hK => ?_) AllReadyIn.nil
          go_simp
          refine hK _ _ ?_
          clear hK K
          refine wpAnyIn_ready (rs := [6]) (by kernel_rfl) (by simp) ?_
          refine AllReadyIn.cons rfl (fun K hK => ?_) AllReadyIn.nil
          go_simp
          refine hK _ _ ?_
          clear hK K
          refine wpAnyIn_done (by kernel_rfl) ?_ _
          exact ⟨((keepsOthers_below b1).trans (KeepsOthers.setCell _ _ _)).from _, (Mid.of_below (b1.mono hle)).setCell (p := ⟨w.heap.size + 1, k, none⟩) (.inl ⟨by show w.heap.size ≤ w.heap.size + 1; omega, by show w.heap.size + 1 < w.heap.size + 3; omega⟩) _, by show FlI w n wd sl (flA wd sl xs ys) (vals (pre ++ [⟨k, hkn⟩])) _; rw [vals_snoc]; exact hI1.set hkn _ HQ2.out⟩
        · go_simp
          refine hK _ _ ?_
          clear hK K
          refine wpAnyIn_ready (rs := [0, 4]) (by kernel_rfl) (by simp) ?_
          refine AllReadyIn.cons rfl (fun K hK => ?_) (AllReadyIn.cons rfl (fun K hK => ?_) AllReadyIn.nil)
          · go_simp
            refine hK _ _ ?_
            clear hK K
            refine wpAnyIn_ready (rs := [4]) (by kernel_rfl) (by simp) ?_
            refine AllReadyIn.cons rfl (fun K hK => ?_) AllReadyIn.nil
            go_simp
            refine ⟨trivial, ?_⟩
            refine (CallsIn.inRound l (callsIn_wide.2 (flowI_t wd sl u v _ HS.out HU.out HV.out q HQ.out))).mono ?_
            rintro e1 W1 ⟨rfl, b1d⟩
            have b1 : Below W.heap.size W W1 := ⟨b1d.os, b1d.tape, b1d.output, b1d.size, b1d.block⟩
            have hI1 := hI.below (b1.mono hle)
            have cb1 := hI1.cb
            have rr1 := hI1.row k hkn
            obtain ⟨r1, rf1⟩ := rr1
            clear b1d
            refine hK _ _ ?_
            clear hK K
            refine wpAnyIn_ready (rs := [5]) (by kernel_rfl) (by simp) ?_
            refine AllReadyIn.cons rfl (fun K hK => ?_) AllReadyIn.nil
            go_simp
            refine hK _ _ ?_
            clear hK K
            refine wpAnyIn_ready (rs := [6]) (by kernel_rfl) (by simp) ?_
            refine AllReadyIn.cons rfl (fun K hK => ?_) AllReadyIn.nil
            go_simp
            refine hK _ _ ?_
            clear hK K
            refine wpAnyIn_done (by kernel_rfl) ?_ _
            exact ⟨((keepsOthers_below b1).trans (KeepsOthers.setCell _ _ _)).from _, (Mid.of_below (b1.mono hle)).setCell (p := ⟨w.heap.size + 1, k, none⟩) (.inl ⟨by show w.heap.size ≤ w.heap.size + 1; omega, by show w.heap.size + 1 < w.heap.size + 3; omega⟩) _, by show FlI w n wd sl (flA wd sl xs ys) (vals (pre ++ [⟨k, hkn⟩])) _; rw [vals_snoc]; exact hI1.set hkn _ HQ2.out⟩
          · go_simp
            refine ⟨trivial, ?_⟩
            refine (CallsIn.inRound l (callsIn_wide.2 (flowI_t wd sl u v _ HS.out HU.out HV.out q HQ.out))).mono ?_
            rintro e1 W1 ⟨rfl, b1d⟩
            have b1 : Below W.heap.size W W1 := ⟨b1d.os, b1d.tape, b1d.output, b1d.size, b1d.block⟩
            have hI1 := hI.below (b1.mono hle)
            have cb1 := hI1.cb
            have rr1 := hI1.row k hkn
            obtain ⟨r1, rf1⟩ := rr1
            clear b1d
            refine hK _ _ ?_
            clear hK K
            refine wpAnyIn_ready (rs := [0]) (by kernel_rfl) (by simp) ?_
            refine AllReadyIn.cons rfl (fun K hK => ?_) AllReadyIn.nil
            go_simp
            refine hK _ _ ?_
            clear hK K
            refine wpAnyIn_ready (rs := [5]) (by kernel_rfl) (by simp) ?_
            refine AllReadyIn.cons rfl (fun K hK => ?_) AllReadyIn.nil
            go_simp
            refine hK _ _ ?_
            clear hK K
            refine wpAnyIn_ready (rs := [6]) (by kernel_rfl) (by simp) ?_
            refine AllReadyIn.cons rfl (fun K hK => ?_) AllReadyIn.nil
            go_simp
            refine hK _ _ ?_
            clear hK K
            refine wpAnyIn_done (by kernel_rfl) ?_ _
            exact ⟨((keepsOthers_below b1).trans (KeepsOthers.setCell _ _ _)).from _, (Mid.of_below (b1.mono hle)).setCell (p := ⟨w.heap.size + 1, k, none⟩) (.inl ⟨by show w.heap.size ≤ w.heap.size + 1; omega, by show w.heap.size + 1 < w.heap.size + 3; omega⟩) _, by show FlI w n wd sl (flA wd sl xs ys) (vals (pre ++ [⟨k, hkn⟩])) _; rw [vals_snoc]; exact hI1.set hkn _ HQ2.out⟩
      · go_simp
        refine hK _ _ ?_
        clear hK K
        refine wpAnyIn_ready (rs := [0, 1, 4]) (by kernel_rfl) (by simp) ?_
        refine AllReadyIn.cons rfl (fun K hK => ?_) (AllReadyIn.cons rfl (fun K hK => ?_) (AllReadyIn.cons rfl (fun K hK => ?_) AllReadyIn.nil))
        · go_simp
          refine hK _ _ ?_
          clear hK K
          refine wpAnyIn_ready (rs := [1, 4]) (by kernel_rfl) (by simp) ?_
          refine AllReadyIn.cons rfl (fun K hK => ?_) (AllReadyIn.cons rfl (fun K hK => ?_) AllReadyIn.nil)
          · go_simp
            refine hK _ _ ?_
            clear hK K
            refine wpAnyIn_ready (rs := [4]) (by kernel_rfl) (by simp) ?_
            refine AllReadyIn.cons rfl (fun K hK => ?_) AllReadyIn.nil
            go_simp
            refine ⟨trivial, ?_⟩
            refine (CallsIn.inRound l (callsIn_wide.2 (flowI_t wd sl u v _ HS.out HU.out HV.out q HQ.out))).mono ?_
            rintro e1 W1 ⟨rfl, b1d⟩
            have b1 : Below W.heap.size W W1 := ⟨b1d.os, b1d.tape, b1d.output, b1d.size, b1d.block⟩
            have hI1 := hI.below (b1.mono hle)
            have cb1 := hI1.cb
            have rr1 := hI1.row k hkn
            obtain ⟨r1, rf1⟩ := rr1
            clear b1d
            refine hK _ _ ?_
            clear hK K
            refine wpAnyIn_ready (rs := [5]) (by kernel_rfl) (by simp) ?_
            refine AllReadyIn.cons rfl (fun K hK => ?_) AllReadyIn.nil
            go_simp
            refine hK _ _ ?_
            clear hK K
            refine wpAnyIn_ready (rs := [6]) (by kernel_rfl) (by simp) ?_
            refine AllReadyIn.cons rfl (fun K hK => ?_) AllReadyIn.nil
            go_simp
            refine hK _ _ ?_
            clear hK K
            refine wpAnyIn_done (by kernel_rfl) ?_ _
            exact ⟨((keepsOthers_below b1).trans (KeepsOthers.setCell _ _ _)).from _, (Mid.of_below (b1.mono hle)).setCell (p := ⟨w.heap.size + 1, k, none⟩) (.inl ⟨by show w.heap.size ≤ w.heap.size + 1; omega, by show w.heap.size + 1 < w.heap.size + 3; omega⟩) _, by show FlI w n wd sl (flA wd sl xs ys) (vals (pre ++ [⟨k, hkn⟩])) _; rw [vals_snoc]; exact hI1.set hkn _ HQ2.out⟩
          · go_simp
            refine ⟨trivial, ?_⟩
            refine (CallsIn.inRound l (callsIn_wide.2 (flowI_t wd sl u v _ HS.out HU.out HV.out q HQ.out))).mono ?_
            rintro e1 W1 ⟨rfl, b1d⟩
            have b1 : Below W.heap.size W W1 := ⟨b1d.os, b1d.tape, b1d.output, b1d.size, b1d.block⟩
            have hI1 := hI.below (b1.mono hle)
            have cb1 := hI1.cb
            have rr1 := hI1.row k hkn
            obtain ⟨r1, rf1⟩ := rr1
            clear b1d
            refine hK _ _ ?_
            clear hK K
            refine wpAnyIn_ready (rs := [1]) (by kernel_rfl) (by simp) ?_
            refine AllReadyIn.cons rfl (fun K hK => ?_) AllReadyIn.nil
            go_simp
            refine hK _ _ ?_
            clear hK K
            refine wpAnyIn_ready (rs := [5]) (by kernel_rfl) (by simp) ?_
            refine AllReadyIn.cons rfl (fun K hK => ?_) AllReadyIn.nil
            go_simp
            refine hK _ _ ?_
            clear hK K
            refine wpAnyIn_ready (rs := [6]) (by kernel_rfl) (by simp) ?_
            refine AllReadyIn.cons rfl (fun K hK => ?_) AllReadyIn.nil
            go_simp
            refine hK _ _ ?_
            clear hK K
            refine wpAnyIn_done (by kernel_rfl) ?_ _
            exact ⟨((keepsOthers_below b1).trans (KeepsOthers.setCell _ _ _)).from _, (Mid.of_below (b1.mono hle)).setCell (p := ⟨w.heap.size + 1, k, none⟩) (.inl ⟨by show w.heap.size ≤ w.heap.size + 1; omega, by show w.heap.size + 1 < w.heap.size + 3; omega⟩) _, by show FlI w n wd sl (flA wd sl xs ys) (vals (pre ++ [⟨k, hkn⟩])) _; rw [vals_snoc]; exact hI1.set hkn _ HQ2.out⟩
        · go_simp
          refine hK _ _ ?_
          clear hK K
          refine wpAnyIn_ready (rs := [0, 4]) (by kernel_rfl) (by simp) ?_
          refine AllReadyIn.cons rfl (fun K hK => ?_) (AllReadyIn.cons rfl (fun K hK => ?_) AllReadyIn.nil)
          · go_simp
            refine hK _ _ ?_
            clear hK K
            refine wpAnyIn_ready (rs := [4]) (by kernel_rfl) (by simp) ?_
            refine AllReadyIn.cons rfl (fun K hK => ?_) AllReadyIn.nil
            go_simp
            refine ⟨trivial, ?_⟩
            refine (CallsIn.inRound l (callsIn_wide.2 (flowI_t wd sl u v _ HS.out HU.out HV.out q HQ.out))).mono ?_
            rintro e1 W1 ⟨rfl, b1d⟩
            have b1 : Below W.heap.size W W1 := ⟨b1d.os, b1d.tape, b1d.output, b1d.size, b1d.block⟩
            have hI1 := hI.below (b1.mono hle)
            have cb1 := hI1.cb
            have rr1 := hI1.row k hkn
            obtain ⟨r1, rf1⟩ := rr1
            clear b1d
            refine hK _ _ ?_
            clear hK K
            refine wpAnyIn_ready (rs := [5]) (by kernel_rfl) (by simp) ?_
            refine AllReadyIn.cons rfl (fun K hK => ?_) AllReadyIn.nil
            go_simp
            refine hK _ _ ?_
            clear hK K
            refine wpAnyIn_ready (rs := [6]) (by kernel_rfl) (by simp) ?_
            refine AllReadyIn.cons rfl (fun K hK => ?_) AllReadyIn.nil
            go_simp
            refine hK _ _ ?_
            clear hK K
            refine wpAnyIn_done (by kernel_rfl) ?_ _
            exact ⟨((keepsOthers_below b1).trans (KeepsOthers.setCell _ _ _)).from _, (Mid.of_below (b1.mono hle)).setCell (p := ⟨w.heap.size + 1, k, none⟩) (.inl ⟨by show w.heap.size ≤ w.heap.size + 1; omega, by show w.heap.size + 1 < w.heap.size + 3; omega⟩) _, by show FlI w n wd sl (flA wd sl xs ys) (vals (pre ++ [⟨k, hkn⟩])) _; rw [vals_snoc]; exact hI1.set hkn _ HQ2.out⟩
          · go_simp
            refine ⟨trivial, ?_⟩
            refine (CallsIn.inRound l (callsIn_wide.2 (flowI_t wd sl u v _ HS.out HU.out HV.out q HQ.out))).mono ?_
            rintro e1 W1 ⟨rfl, b1d⟩
            have b1 : Below W.heap.size W W1 := ⟨b1d.os, b1d.tape, b1d.output, b1d.size, b1d.block⟩
            have hI1 := hI.below (b1.mono hle)
            have cb1 := hI1.cb
            have rr1 := hI1.row k hkn
            obtain ⟨r1, rf1⟩ := rr1
            clear b1d
            refine hK _ _ ?_
            clear hK K
            refine wpAnyIn_ready (rs := [0]) (by kernel_rfl) (by simp) ?_
            refine AllReadyIn.cons rfl (fun K hK => ?_) AllReadyIn.nil
            go_simp
            refine hK _ _ ?_
            clear hK K
            refine wpAnyIn_ready (rs := [5]) (by kernel_rfl) (by simp) ?_
            refine AllReadyIn.cons rfl (fun K hK => ?_) AllReadyIn.nil
            go_simp
            refine hK _ _ ?_
            clear hK K
            refine wpAnyIn_ready (rs := [6]) (by kernel_rfl) (by simp) ?_
            refine AllReadyIn.cons rfl (fun K hK => ?_) AllReadyIn.nil
            go_simp
            refine hK _ _ ?_
            clear hK K
            refine wpAnyIn_done (by kernel_rfl) ?_ _
            exact ⟨((keepsOthers_below b1).trans (KeepsOthers.setCell _ _ _)).from _, (Mid.of_below (b1.mono hle)).setCell (p := ⟨w.heap.size + 1, k, none⟩) (.inl ⟨by show w.heap.size ≤ w.heap.size + 1; omega, by show w.heap.size + 1 < w.heap.size + 3; omega⟩) _, by show FlI w n wd sl (flA wd sl xs ys) (vals (pre ++ [⟨k, hkn⟩])) _; rw [vals_snoc]; exact hI1.set hkn _ HQ2.out⟩
        · go_simp
          refine ⟨trivial, ?_⟩
          refine (CallsIn.inRound l (callsIn_wide.2 (flowI_t wd sl u v _ HS.out HU.out HV.out q HQ.out))).mono ?_
          rintro e1 W1 ⟨rfl, b1d⟩
          have b1 : Below W.heap.size W W1 := ⟨b1d.os, b1d.tape, b1d.output, b1d.size, b1d.block⟩
          have hI1 := hI.below (b1.mono hle)
          have cb1 := hI1.cb
          have rr1 := hI1.row k hkn
          obtain ⟨r1, rf1⟩ := rr1
          clear b1d
          refine hK _ _ ?_
          clear hK K
          refine wpAnyIn_ready (rs := [0, 1]) (by kernel_rfl) (by simp) ?_
          refine AllReadyIn.cons rfl (fun K hK => ?_) (AllReadyIn.cons rfl (fun K hK => ?_) AllReadyIn.nil)
          · go_simp
            refine hK _ _ ?_
            clear hK K
            refine wpAnyIn_ready (rs := [1]) (by kernel_rfl) (by simp) ?_
            refine AllReadyIn.cons rfl (fun K hK => ?_) AllReadyIn.nil
            go_simp
            refine hK _ _ ?_
            clear hK K
            refine wpAnyIn_ready (rs := [5]) (by kernel_rfl) (by simp) ?_
            refine AllReadyIn.cons rfl (fun K hK => ?_) AllReadyIn.nil
            go_simp
            refine hK _ _ ?_
            clear hK K
            refine wpAnyIn_ready (rs := [6]) (by kernel_rfl) (by simp) ?_
            refine AllReadyIn.cons rfl (fun K hK => ?_) AllReadyIn.nil
            go_simp
            refine hK _ _ ?_
            clear hK K
            refine wpAnyIn_done (by kernel_rfl) ?_ _
            exact ⟨((keepsOthers_below b1).trans (KeepsOthers.setCell _ _ _)).from _, (Mid.of_below (b1.mono hle)).setCell (p := ⟨w.heap.size + 1, k, none⟩) (.inl ⟨by show w.heap.size ≤ w.heap.size + 1; omega, by show w.heap.size + 1 < w.heap.size + 3; omega⟩) _, by show FlI w n wd sl (flA wd sl xs ys) (vals (pre ++ [⟨k, hkn⟩])) _; rw [vals_snoc]; exact hI1.set hkn _ HQ2.out⟩
          · go_simp
            refine hK _ _ ?_
            clear hK K
            refine wpAnyIn_ready (rs := [0]) (by kernel_rfl) (by simp) ?_
            refine AllReadyIn.cons rfl (fun K hK => ?_) AllReadyIn.nil
            go_simp
            refine hK _ _ ?_
            clear hK K
            refine wpAnyIn_ready (rs := [5]) (by kernel_rfl) (by simp) ?_
            refine AllReadyIn.cons rfl (fun K hK => ?_) AllReadyIn.nil
            go_simp
            refine hK _ _ ?_
            clear hK K
            refine wpAnyIn_ready (rs := [6]) (by kernel_rfl) (by simp) ?_
            refine AllReadyIn.cons rfl (fun K hK => ?_) AllReadyIn.nil
            go_simp
            refine hK _ _ ?_
            clear hK K
            refine wpAnyIn_done (by kernel_rfl) ?_ _
            exact ⟨((keepsOthers_below b1).trans (KeepsOthers.setCell _ _ _)).from _, (Mid.of_below (b1.mono hle)).setCell (p := ⟨w.heap.size + 1, k, none⟩) (.inl ⟨by show w.heap.size ≤ w.heap.size + 1; omega, by show w.heap.size + 1 < w.heap.size + 3; omega⟩) _, by show FlI w n wd sl (flA wd sl xs ys) (vals (pre ++ [⟨k, hkn⟩])) _; rw [vals_snoc]; exact hI1.set hkn _ HQ2.out⟩
    · go_simp
      refine hK _ _ ?_
      clear hK K
      refine wpAnyIn_ready (rs := [0, 1, 2]) (by kernel_rfl) (by simp) ?_
      refine AllReadyIn.cons rfl (fun K hK => ?_) (AllReadyIn.cons rfl (fun K hK => ?_) (AllReadyIn.cons rfl (fun K hK => ?_) AllReadyIn.nil))
      · go_simp
        refine hK _ _ ?_
        clear hK K
        refine wpAnyIn_ready (rs := [1, 2]) (by kernel_rfl) (by simp) ?_
        refine AllReadyIn.cons rfl (fun K hK => ?_) (AllReadyIn.cons rfl (fun K hK => ?_) AllReadyIn.nil)
        · go_simp
          refine hK _ _ ?_
          clear hK K
          refine wpAnyIn_ready (rs := [2]) (by kernel_rfl) (by simp) ?_
          refine AllReadyIn.cons rfl (fun K hK => ?_) AllReadyIn.nil
          go_simp
          refine hK _ _ ?_
          clear hK K
          refine wpAnyIn_ready (rs := [4]) (by kernel_rfl) (by simp) ?_
          refine AllReadyIn.cons rfl (fun K hK => ?_) AllReadyIn.nil
          go_simp
          refine ⟨trivial, ?_⟩
          refine (CallsIn.inRound l (callsIn_wide.2 (flowI_t wd sl u v _ HS.out HU.out HV.out q HQ.out))).mono ?_
          rintro e1 W1 ⟨rfl, b1d⟩
          have b1 : Below W.heap.size W W1 := ⟨b1d.os, b1d.tape, b1d.output, b1d.size, b1d.block⟩
          have hI1 := hI.below (b1.mono hle)
          have cb1 := hI1.cb
          have rr1 := hI1.row k hkn
          obtain ⟨r1, rf1⟩ := rr1
          clear b1d
          refine hK _ _ ?_
          clear hK K
          refine wpAnyIn_ready (rs := [5]) (by kernel_rfl) (by simp) ?_
          refine AllReadyIn.cons rfl (fun K hK => ?_) AllReadyIn.nil
          go_simp
          refine hK _ _ ?_
          clear hK K
          refine wpAnyIn_ready (rs := [6]) (by kernel_rfl) (by simp) ?_
          refine AllReadyIn.cons rfl (fun K hK => ?_) AllReadyIn.nil
          go_simp
          refine hK _ _ ?_
          clear hK K
          refine wpAnyIn_done (by kernel_rfl) ?_ _
          exact ⟨((keepsOthers_below b1).trans (KeepsOthers.setCell _ _ _)).from _, (Mid.of_below (b1.mono hle)).setCell (p := ⟨w.heap.size + 1, k, none⟩) (.inl ⟨by show w.heap.size ≤ w.heap.size + 1; omega, by show w.heap.size + 1 < w.heap.size + 3; omega⟩) _, by show FlI w n wd sl (flA wd sl xs ys) (vals (pre ++ [⟨k, hkn⟩])) _; rw [vals_snoc]; exact hI1.set hkn _ HQ2.out⟩
        · go_simp
          refine hK _ _ ?_
          clear hK K
          refine wpAnyIn_ready (rs := [1, 4]) (by kernel_rfl) (by simp) ?_
          refine AllReadyIn.cons rfl (fun K hK => ?_) (AllReadyIn.cons rfl (fun K hK => ?_) AllReadyIn.nil)
          · go_simp
            refine hK _ _ ?_
            clear hK K
            refine wpAnyIn_ready (rs := [4]) (by kernel_rfl) (by simp) ?_
            refine AllReadyIn.cons rfl (fun K hK => ?_) AllReadyIn.nil
            go_simp
            refine ⟨trivial, ?_⟩
            refine (CallsIn.inRound l (callsIn_wide.2 (flowI_t wd sl u v _ HS.out HU.out HV.out q HQ.out))).mono ?_
            rintro e1 W1 ⟨rfl, b1d⟩
            have b1 : Below W.heap.size W W1 := ⟨b1d.os, b1d.tape, b1d.output, b1d.size, b1d.block⟩
            have hI1 := hI.below (b1.mono hle)
            have cb1 := hI1.cb
            have rr1 := hI1.row k hkn
            obtain ⟨r1, rf1⟩ := rr1
            clear b1d
            refine hK _ _ ?_
            clear hK K
            refine wpAnyIn_ready (rs := [5]) (by kernel_rfl) (by simp) ?_
            refine AllReadyIn.cons rfl (fun K hK => ?_) AllReadyIn.nil
            go_simp
            refine hK _ _ ?_
            clear hK K
            refine wpAnyIn_ready (rs := [6]) (by kernel_rfl) (by simp) ?_
            refine AllReadyIn.cons rfl (fun K hK => ?_) AllReadyIn.nil
            go_simp
            refine hK _ _ ?_
            clear hK K
            refine wpAnyIn_done (by kernel_rfl) ?_ _
            exact ⟨((keepsOthers_below b1).trans (KeepsOthers.setCell _ _ _)).from _, (Mid.of_below (b1.mono hle)).setCell (p := ⟨w.heap.size + 1, k, none⟩) (.inl ⟨by show w.heap.size ≤ w.heap.size + 1; omega, by show w.heap.size + 1 < w.heap.size + 3; omega⟩) _, by show FlI w n wd sl (flA wd sl xs ys) (vals (pre ++ [⟨k, hkn⟩])) _; rw [vals_snoc]; exact hI1.set hkn _ HQ2.out⟩
          · go_simp
            refine ⟨trivial, ?_⟩
            refine (CallsIn.inRound l (callsIn_wide.2 (flowI_t wd sl u v _ HS.out HU.out HV.out q HQ.out))).mono ?_
            rintro e1 W1 ⟨rfl, b1d⟩
            have b1 : Below W.heap.size W W1 := ⟨b1d.os, b1d.tape, b1d.output, b1d.size, b1d.block⟩
            have hI1 := hI.below (b1.mono hle)
            have cb1 := hI1.cb
            have rr1 := hI1.row k hkn
            obtain ⟨r1, rf1⟩ := rr1
            clear b1d
            refine hK _ _ ?_
            clear hK K
            refine wpAnyIn_ready (rs := [1]) (by kernel_rfl) (by simp) ?_
            refine AllReadyIn.cons rfl (fun K hK => ?_) AllReadyIn.nil
            go_simp
            refine hK _ _ ?_
            clear hK K
            refine wpAnyIn_ready (rs := [5]) (by kernel_rfl) (by simp) ?_
            refine AllReadyIn.cons rfl (fun K hK => ?_) AllReadyIn.nil
            go_simp
            refine hK _ _ ?_
            clear hK K
            refine wpAnyIn_ready (rs := [6]) (by kernel_rfl) (by simp) ?_
            refine AllReadyIn.cons rfl (fun K hK => ?_) AllReadyIn.nil
            go_simp
            refine hK _ _ ?_
            clear hK K
            refine wpAnyIn_done (by kernel_rfl) ?_ _
            exact ⟨((keepsOthers_below b1).trans (KeepsOthers.setCell _ _ _)).from _, (Mid.of_below (b1.mono hle)).setCell (p := ⟨w.heap.size + 1, k, none⟩) (.inl ⟨by show w.heap.size ≤ w.heap.size + 1; omega, by show w.heap.size + 1 < w.heap.size + 3; omega⟩) _, by show FlI w n wd sl (flA wd sl xs ys) (vals (pre ++ [⟨k, hkn⟩])) _; rw [vals_snoc]; exact hI1.set hkn _ HQ2.out⟩
      · go_simp
        refine hK _ _ ?_
        clear hK K
        refine wpAnyIn_ready (rs := [0, 2]) (by kernel_rfl) (by simp) ?_
        refine AllReadyIn.cons rfl (fun K hK => ?_) (AllReadyIn.cons rfl (fun K hK => ?_) AllReadyIn.nil)
        · go_simp
          refine hK _ _ ?_
          clear hK K
          refine wpAnyIn_ready (rs := [2]) (by kernel_rfl) (by simp) ?_
          refine AllReadyIn.cons rfl (fun K hK => ?_) AllReadyIn.nil
          go_simp
          refine hK _ _ ?_
          clear hK K
          refine wpAnyIn_ready (rs := [4]) (by kernel_rfl) (by simp) ?_
          refine AllReadyIn.cons rfl (fun K hK => ?_) AllReadyIn.nil
          go_simp
          refine ⟨trivial, ?_⟩
          refine (CallsIn.inRound l (callsIn_wide.2 (flowI_t wd sl u v _ HS.out HU.out HV.out q HQ.out))).mono ?_
          rintro e1 W1 ⟨rfl, b1d⟩
          have b1 : Below W.heap.size W W1 := ⟨b1d.os, b1d.tape, b1d.output, b1d.size, b1d.block⟩
          have hI1 := hI.below (b1.mono hle)
          have cb1 := hI1.cb
          have rr1 := hI1.row k hkn
          obtain ⟨r1, rf1⟩ := rr1
          clear b1d
          refine hK _ _ ?_
          clear hK K
          refine wpAnyIn_ready (rs := [5]) (by kernel_rfl) (by simp) ?_
          refine AllReadyIn.cons rfl (fun K hK => ?_) AllReadyIn.nil
          go_simp
          refine hK _ _ ?_
          clear hK K
          refine wpAnyIn_ready (rs := [6]) (by kernel_rfl) (by simp) ?_
          refine AllReadyIn.cons rfl (fun K hK => ?_) AllReadyIn.nil
          go_simp
          refine hK _ _ ?_
          clear hK K
          refine wpAnyIn_done (by kernel_rfl) ?_ _
          exact ⟨((keepsOthers_below b1).trans (KeepsOthers.setCell _ _ _)).from _, (Mid.of_below (b1.mono hle)).setCell (p := ⟨w.heap.size + 1, k, none⟩) (.inl ⟨by show w.heap.size ≤ w.heap.size + 1; omega, by show w.heap.size + 1 < w.heap.size + 3; omega⟩) _, by show FlI w n wd sl (flA wd sl xs ys) (vals (pre ++ [⟨k, hkn⟩])) _; rw [vals_snoc]; exact hI1.set hkn _ HQ2.out⟩
        · go_simp
          refine hK _ _ ?_
          clear hK K
          refine wpAnyIn_ready (rs := [0, 4]) (by kernel_rfl) (by simp) ?_
          refine AllReadyIn.cons rfl (fun K hK => ?_) (AllReadyIn.cons rfl (fun K hK => ?_) AllReadyIn.nil)
          · go_simp
            refine hK _ _ ?_
            clear hK K
            refine wpAnyIn_ready (rs := [4]) (by kernel_rfl) (by simp) ?_
            refine AllReadyIn.cons rfl (fun K hK => ?_) AllReadyIn.nil
            go_simp
            refine ⟨trivial, ?_⟩
            refine (CallsIn.inRound l (callsIn_wide.2 (flowI_t wd sl u v _ HS.out HU.out HV.out q HQ.out))).mono ?_
            rintro e1 W1 ⟨rfl, b1d⟩
            have b1 : Below W.heap.size W W1 := ⟨b1d.os, b1d.tape, b1d.output, b1d.size, b1d.block⟩
            have hI1 := hI.below (b1.mono hle)
            have cb1 := hI1.cb
            have rr1 := hI1.row k hkn
            obtain ⟨r1, rf1⟩ := rr1
            clear b1d
            refine hK _ _ ?_
            clear hK K
            refine wpAnyIn_ready (rs := [5]) (by kernel_rfl) (by simp) ?_
            refine AllReadyIn.cons rfl (fun K hK => ?_) AllReadyIn.nil
            go_simp
            refine hK _ _ ?_
            clear hK K
            refine wpAnyIn_ready (rs := [6]) (by kernel_rfl) (by simp) ?_
            refine AllReadyIn.cons rfl (fun K hK => ?_) AllReadyIn.nil
            go_simp
            refine hK _ _ ?_
            clear hK K
            refine wpAnyIn_done (by kernel_rfl) ?_ _
            exact ⟨((keepsOthers_below b1).trans (KeepsOthers.setCell _ _ _)).from _, (Mid.of_below (b1.mono hle)).setCell (p := ⟨w.heap.size + 1, k, none⟩) (.inl ⟨by show w.heap.size ≤ w.heap.size + 1; omega, by show w.heap.size + 1 < w.heap.size + 3; omega⟩) _, by show FlI w n wd sl (flA wd sl xs ys) (vals (pre ++ [⟨k, hkn⟩])) _; rw [vals_snoc]; exact hI1.set hkn _ HQ2.out⟩
          · go_simp
            refine ⟨trivial, ?_⟩
            refine (CallsIn.inRound l (callsIn_wide.2 (flowI_t wd sl u v _ HS.out HU.out HV.out q HQ.out))).mono ?_
            rintro e1 W1 ⟨rfl, b1d⟩
            have b1 : Below W.heap.size W W1 := ⟨b1d.os, b1d.tape, b1d.output, b1d.size, b1d.block⟩
            have hI1 := hI.below (b1.mono hle)
            have cb1 := hI1.cb
            have rr1 := hI1.row k hkn
            obtain ⟨r1, rf1⟩ := rr1
            clear b1d
            refine hK _ _ ?_
            clear hK K
            refine wpAnyIn_ready (rs := [0]) (by kernel_rfl) (by simp) ?_
            refine AllReadyIn.cons rfl (fun K hK => ?_) AllReadyIn.nil
            go_simp
            refine hK _ _ ?_
            clear hK K
            refine wpAnyIn_ready (rs := [5]) (by kernel_rfl) (by simp) ?_
            refine AllReadyIn.cons rfl (fun K hK => ?_) AllReadyIn.nil
            go_simp
            refine hK _ _ ?_
            clear hK K
            refine wpAnyIn_ready (rs := [6]) (by kernel_rfl) (by simp) ?_
            refine AllReadyIn.cons rfl (fun K hK => ?_) AllReadyIn.nil
            go_simp
            refine hK _ _ ?_
            clear hK K
            refine wpAnyIn_done (by kernel_rfl) ?_ _
            exact ⟨((keepsOthers_below b1).trans (KeepsOthers.setCell _ _ _)).from _, (Mid.of_below (b1.mono hle)).setCell (p := ⟨w.heap.size + 1, k, none⟩) (.inl ⟨by show w.heap.size ≤ w.heap.size + 1; omega, by show w.heap.size + 1 < w.heap.size + 3; omega⟩) _, by show FlI w n wd sl (flA wd sl xs ys) (vals (pre ++ [⟨k, hkn⟩])) _; rw [vals_snoc]; exact hI1.set hkn _ HQ2.out⟩
      · go_simp
        refine hK _ _ ?_
        clear hK K
        refine wpAnyIn_ready (rs := [0, 1, 4]) (by kernel_rfl) (by simp) ?_
        refine AllReadyIn.cons rfl (fun K hK => ?_) (AllReadyIn.cons rfl (fun K hK => ?_) (AllReadyIn.cons rfl (fun K hK => ?_) AllReadyIn.nil))
        · go_simp
          refine hK _ _ ?_
          clear hK K
          refine wpAnyIn_ready (rs := [1, 4]) (by kernel_rfl) (by simp) ?_
          refine AllReadyIn.cons rfl (fun K hK => ?_) (AllReadyIn.cons rfl (fun K hK => ?_) AllReadyIn.nil)
          · go_simp
            refine hK _ _ ?_
            clear hK K
            refine wpAnyIn_ready (rs := [4]) (by kernel_rfl) (by simp) ?_
            refine AllReadyIn.cons rfl (fun K hK => ?_) AllReadyIn.nil
            go_simp
            refine ⟨trivial, ?_⟩
            refine (CallsIn.inRound l (callsIn_wide.2 (flowI_t wd sl u v _ HS.out HU.out HV.out q HQ.out))).mono ?_
            rintro e1 W1 ⟨rfl, b1d⟩
            have b1 : Below W.heap.size W W1 := ⟨b1d.os, b1d.tape, b1d.output, b1d.size, b1d.block⟩
            have hI1 := hI.below (b1.mono hle)
            have cb1 := hI1.cb
            have rr1 := hI1.row k hkn
            obtain ⟨r1, rf1⟩ := rr1
            clear b1d
            refine hK _ _ ?_
            clear hK K
            refine wpAnyIn_ready (rs := [5]) (by kernel_rfl) (by simp) ?_
            refine AllReadyIn.cons rfl (fun K hK => ?_) AllReadyIn.nil
            go_simp
            refine hK _ _ ?_
            clear hK K
            refine wpAnyIn_ready (rs := [6]) (by kernel_rfl) (by simp) ?_
            refine AllReadyIn.cons rfl (fun K hK => ?_) AllReadyIn.nil
            go_simp
            refine hK _ _ ?_
            clear hK K
            refine wpAnyIn_done (by kernel_rfl) ?_ _
            exact ⟨((keepsOthers_below b1).trans (KeepsOthers.setCell _ _ _)).from _, (Mid.of_below (b1.mono hle)).setCell (p := ⟨w.heap.size + 1, k, none⟩) (.inl ⟨by show w.heap.size ≤ w.heap.size + 1; omega, by show w.heap.size + 1 < w.heap.size + 3; omega⟩) _, by show FlI w n wd sl (flA wd sl xs ys) (vals (pre ++ [⟨k, hkn⟩])) _; rw [vals_snoc]; exact hI1.set hkn _ HQ2.out⟩
          · go_simp
            refine ⟨trivial, ?_⟩
            refine (CallsIn.inRound l (callsIn_wide.2 (flowI_t wd sl u v _ HS.out HU.out HV.out q HQ.out))).mono ?_
            rintro e1 W1 ⟨rfl, b1d⟩
            have b1 : Below W.heap.size W W1 := ⟨b1d.os, b1d.tape, b1d.output, b1d.size, b1d.block⟩
            have hI1 := hI.below (b1.mono hle)
            have cb1 := hI1.cb
            have rr1 := hI1.row k hkn
            obtain ⟨r1, rf1⟩ := rr1
            clear b1d
            refine hK _ _ ?_
            clear hK K
            refine wpAnyIn_ready (rs := [1]) (by kernel_rfl) (by simp) ?_
            refine AllReadyIn.cons rfl (fun K hK => ?_) AllReadyIn.nil
            go_simp
            refine hK _ _ ?_
            clear hK K
            refine wpAnyIn_ready (rs := [5]) (by kernel_rfl) (by simp) ?_
            refine AllReadyIn.cons rfl (fun K hK => ?_) AllReadyIn.nil
            go_simp
            refine hK _ _ ?_
            clear hK K
            refine wpAnyIn_ready (rs := [6]) (by kernel_rfl) (by simp) ?_
            refine AllReadyIn.cons rfl (fun K hK => ?_) AllReadyIn.nil
            go_simp
            refine hK _ _ ?_
            clear hK K
            refine wpAnyIn_done (by kernel_rfl) ?_ _
            exact ⟨((keepsOthers_below b1).trans (KeepsOthers.setCell _ _ _)).from _, (Mid.of_below (b1.mono hle)).setCell (p := ⟨w.heap.size + 1, k, none⟩) (.inl ⟨by show w.heap.size ≤ w.heap.size + 1; omega, by show w.heap.size + 1 < w.heap.size + 3; omega⟩) _, by show FlI w n wd sl (flA wd sl xs ys) (vals (pre ++ [⟨k, hkn⟩])) _; rw [vals_snoc]; exact hI1.set hkn _ HQ2.out⟩
        · go_simp
          refine hK _ _ ?_
          clear hK K
          refine wpAnyIn_ready (rs := [0, 4]) (by kernel_rfl) (by simp) ?_
          refine AllReadyIn.cons rfl (fun K hK => ?_) (AllReadyIn.cons rfl (fun K hK => ?_) AllReadyIn.nil)
          · go_simp
            refine hK _ _ ?_
            clear hK K
            refine wpAnyIn_ready (rs := [4]) (by kernel_rfl) (by simp) ?_
            refine AllReadyIn.cons rfl (fun K hK => ?_) AllReadyIn.nil
            go_simp
            refine ⟨trivial, ?_⟩
            refine (CallsIn.inRound l (callsIn_wide.2 (flowI_t wd sl u v _ HS.out HU.out HV.out q HQ.out))).mono ?_
            rintro e1 W1 ⟨rfl, b1d⟩
            have b1 : Below W.heap.size W W1 := ⟨b1d.os, b1d.tape, b1d.output, b1d.size, b1d.block⟩
            have hI1 := hI.below (b1.mono hle)
            have cb1 := hI1.cb
            have rr1 := hI1.row k hkn
            obtain ⟨r1, rf1⟩ := rr1
            clear b1d
            refine hK _ _ ?_
            clear hK K
            refine wpAnyIn_ready (rs := [5]) (by kernel_rfl) (by simp) ?_
            refine AllReadyIn.cons rfl (fun K hK => ?_) AllReadyIn.nil
            go_simp
            refine hK _ _ ?_
            clear hK K
            refine wpAnyIn_ready (rs := [6]) (by kernel_rfl) (by simp) ?_
            refine AllReadyIn.cons rfl (fun K hK => ?_) AllReadyIn.nil
            go_simp
            refine hK _ _ ?_
            clear hK K
            refine wpAnyIn_done (by kernel_rfl) ?_ _
            exact ⟨((keepsOthers_below b1).trans (KeepsOthers.setCell _ _ _)).from _, (Mid.of_below (b1.mono hle)).setCell (p := ⟨w.heap.size + 1, k, none⟩) (.inl ⟨by show w.heap.size ≤ w.heap.size + 1; omega, by show w.heap.size + 1 < w.heap.size + 3; omega⟩) _, by show FlI w n wd sl (flA wd sl xs ys) (vals (pre ++ [⟨k, hkn⟩])) _; rw [vals_snoc]; exact hI1.set hkn _ HQ2.out⟩
          · go_simp
            refine ⟨trivial, ?_⟩
            refine (CallsIn.inRound l (callsIn_wide.2 (flowI_t wd sl u v _ HS.out HU.out HV.out q HQ.out))).mono ?_
            rintro e1 W1 ⟨rfl, b1d⟩
            have b1 : Below W.heap.size W W1 := ⟨b1d.os, b1d.tape, b1d.output, b1d.size, b1d.block⟩
            have hI1 := hI.below (b1.mono hle)
            have cb1 := hI1.cb
            have rr1 := hI1.row k hkn
            obtain ⟨r1, rf1⟩ := rr1
            clear b1d
            refine hK _ _ ?_
            clear hK K
            refine wpAnyIn_ready (rs := [0]) (by kernel_rfl) (by simp) ?_
            refine AllReadyIn.cons rfl (fun K hK => ?_) AllReadyIn.nil
            go_simp
            refine hK _ _ ?_
            clear hK K
            refine wpAnyIn_ready (rs := [5]) (by kernel_rfl) (by simp) ?_
            refine AllReadyIn.cons rfl (fun K hK => ?_) AllReadyIn.nil
            go_simp
            refine hK _ _ ?_
            clear hK K
            refine wpAnyIn_ready (rs := [6]) (by kernel_rfl) (by simp) ?_
            refine AllReadyIn.cons rfl (fun K hK => ?_) AllReadyIn.nil
            go_simp
            refine hK _ _ ?_
            clear hK K
            refine wpAnyIn_done (by kernel_rfl) ?_ _
            exact ⟨((keepsOthers_below b1).trans (KeepsOthers.setCell _ _ _)).from _, (Mid.of_below (b1.mono hle)).setCell (p := ⟨w.heap.size + 1, k, none⟩) (.inl ⟨by show w.heap.size ≤ w.heap.size + 1; omega, by show w.heap.size + 1 < w.heap.size + 3; omega⟩) _, by show FlI w n wd sl (flA wd sl xs ys) (vals (pre ++ [⟨k, hkn⟩])) _; rw [vals_snoc]; exact hI1.set hkn _ HQ2.out⟩
        · go_simp
          refine ⟨trivial, ?_⟩
          refine (CallsIn.inRound l (callsIn_wide.2 (flowI_t wd sl u v _ HS.out HU.out HV.out q HQ.out))).mono ?_
          rintro e1 W1 ⟨rfl, b1d⟩
          have b1 : Below W.heap.size W W1 := ⟨b1d.os, b1d.tape, b1d.output, b1d.size, b1d.block⟩
          have hI1 := hI.below (b1.mono hle)
          have cb1 := hI1.cb
          have rr1 := hI1.row k hkn
          obtain ⟨r1, rf1⟩ := rr1
          clear b1d
          refine hK _ _ ?_
          clear hK K
          refine wpAnyIn_ready (rs := [0, 1]) (by kernel_rfl) (by simp) ?_
          refine AllReadyIn.cons rfl (fun K hK => ?_) (AllReadyIn.cons rfl (fun K hK => ?_) AllReadyIn.nil)
          · go_simp
            refine hK _ _ ?_
            clear hK K
            refine wpAnyIn_ready (rs := [1]) (by kernel_rfl) (by simp) ?_
            refine AllReadyIn.cons rfl (fun K hK => ?_) AllReadyIn.nil
            go_simp
            refine hK _ _ ?_
            clear hK K
            refine wpAnyIn_ready (rs := [5]) (by kernel_rfl) (by simp) ?_
            refine AllReadyIn.cons rfl (fun K hK => ?_) AllReadyIn.nil
            go_simp
            refine hK _ _ ?_
            clear hK K
            refine wpAnyIn_ready (rs := [6]) (by kernel_rfl) (by simp) ?_
            refine AllReadyIn.cons rfl (fun K hK => ?_) AllReadyIn.nil
            go_simp
            refine hK _ _ ?_
            clear hK K
            refine wpAnyIn_done (by kernel_rfl) ?_ _
            exact ⟨((keepsOthers_below b1).trans (KeepsOthers.setCell _ _ _)).from _, (Mid.of_below (b1.mono hle)).setCell (p := ⟨w.heap.size + 1, k, none⟩) (.inl ⟨by show w.heap.size ≤ w.heap.size + 1; omega, by show w.heap.size + 1 < w.heap.size + 3; omega⟩) _, by show FlI w n wd sl (flA wd sl xs ys) (vals (pre ++ [⟨k, hkn⟩])) _; rw [vals_snoc]; exact hI1.set hkn _ HQ2.out⟩
          · go_simp
            refine hK _ _ ?_
            clear hK K
            refine wpAnyIn_ready (rs := [0]) (by kernel_rfl) (by simp) ?_
            refine AllReadyIn.cons rfl (fun K hK => ?_) AllReadyIn.nil
            go_simp
            refine hK _ _ ?_
            clear hK K
            refine wpAnyIn_ready (rs := [5]) (by kernel_rfl) (by simp) ?_
            refine AllReadyIn.cons rfl (fun K hK => ?_) AllReadyIn.nil
            go_simp
            refine hK _ _ ?_
            clear hK K
            refine wpAnyIn_ready (rs := [6]) (by kernel_rfl) (by simp) ?_
            refine AllReadyIn.cons rfl (fun K hK => ?_) AllReadyIn.nil
            go_simp
            refine hK _ _ ?_
            clear hK K
            refine wpAnyIn_done (by kernel_rfl) ?_ _
            exact ⟨((keepsOthers_below b1).trans (KeepsOthers.setCell _ _ _)).from _, (Mid.of_below (b1.mono hle)).setCell (p := ⟨w.heap.size + 1, k, none⟩) (.inl ⟨by show w.heap.size ≤ w.heap.size + 1; omega, by show w.heap.size + 1 < w.heap.size + 3; omega⟩) _, by show FlI w n wd sl (flA wd sl xs ys) (vals (pre ++ [⟨k, hkn⟩])) _; rw [vals_snoc]; exact hI1.set hkn _ HQ2.out⟩
  case done =>
    rintro D zs W hD hS hI hK
    have cb := hI.cb
    gi_wp2
    refine ⟨by simp, .inl ⟨_, _, rfl, run_takeDeferred hK, ?_⟩⟩
    have hI2 := hI.own (grownBy_putObj' W D (.deferred none)) (fun r e => by cases e; exact ⟨by omega, _, hK, rfl⟩)
    exact ⟨_, results_tmp rfl _ _ _, rfl, hI2.D, by have := hI2.size; omega, rowOf_len _ _, fun _ => ⟨_, _, rfl, by omega, by have := hI2.size; omega, fun j hj => ⟨by rw [Nat.zero_add, (hI2.row j hj).1, if_pos (by rw [hS]; exact List.mem_range.2 hj), rowOf_at _ _ _ hj], by rw [Nat.zero_add]; exact (hI2.row j hj).2⟩⟩⟩
  case stop =>
    rintro D c' pre W _ _ h _
    exact h.elim

end Go.Proofs.Ytcimigaimlojlaa
