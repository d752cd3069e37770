/- The longest time in which no water can go out. -/
import Derived.Test.YtcimigaimlojlaaRSluice
import Derived.Test.YtcimigaimlojlaaFl
import Derived.Test.YtcimigaimlojlaaZsL
import Derived.Deep.RegionHeld3
namespace Go.Proofs.Ytcimigaimlojlaa
open Go.RowKit

theorem hr_eq (n m : Nat) (xs ys : List Int) (h : hrOk n m xs ys) : n = m := h.1.1
def lsR (wd sl : Int) (xs ys : List Int) : List Int := rowOf (flA wd sl xs ys) xs.length
def r0_LongestShut (a0_0 : Int) (a0_1 : Int) (xa1 : List Int) (xa2 : List Int) : Int := if slOk a0_0 a0_1 ∧ hrOk xa1.length xa2.length xa1 xa2 then mxN (lsR a0_0 a0_1 xa1 xa2) xa1.length else 0
def r1_LongestShut (a0_0 : Int) (a0_1 : Int) (xa1 : List Int) (xa2 : List Int) : Int := sc3 (slOk a0_0 a0_1) (hrOk xa1.length xa2.length xa1 xa2)

set_option maxRecDepth 100000 in
set_option maxHeartbeats 3200000 in
theorem specC_LongestShut (a0_0 : Int) (a0_1 : Int) (a1 : Option Addr) (la1 ca1 : Nat) (xa1 : List Int) (a2 : Option Addr) (la2 ca2 : Nat) (xa2 : List Int) (w : World) (ha0_0 : (Lit.int .i64 a0_0).wf = true) (ha0_1 : (Lit.int .i64 a0_1).wf = true) (ha1 : la1 ≤ 1048576) (ra1 : Rd w w.heap.size a1 la1 xa1) (fa1 : Wf xa1) (ha2 : la2 ≤ 1048576) (ra2 : Rd w w.heap.size a2 la2 xa2) (fa2 : Wf xa2) :
    Calls Try.prog 27 #[.agg #[.int .i64 a0_0, .int .i64 a0_1], .slice a1 la1 ca1, .slice a2 la2 ca2] w fun e w' => e = .returned (.tuple #[.int .i64 (r0_LongestShut a0_0 a0_1 xa1 xa2), .int .i64 (r1_LongestShut a0_0 a0_1 xa1 xa2)]) ∧ Below w.heap.size w w' := by
  have hl1 := ra1.1
  have hl2 := ra2.1
  have RA := Lib.hid ra1
  have RB := Lib.hid ra2
  clear ra1 ra2
  by_cases h : slOk a0_0 a0_1 ∧ hrOk la1 la2 xa1 xa2
  · have e0 : r0_LongestShut a0_0 a0_1 xa1 xa2 = mxN (lsR a0_0 a0_1 xa1 xa2) la1 := by unfold r0_LongestShut; rw [hl1, hl2, if_pos h]
    have e1 : r1_LongestShut a0_0 a0_1 xa1 xa2 = 0 := by unfold r1_LongestShut; rw [hl1, hl2]; exact sc3_ok h.1 h.2
    rw [e0, e1]
    have HC := Lib.hid (show (0 : Int) = sc3 (slOk a0_0 a0_1) (hrOk la1 la2 xa1 xa2) from (sc3_ok h.1 h.2).symm)
    have HS := Lib.hid h.1
    have HH := Lib.hid h.2
    have h200 := h.2.1.2
    obtain rfl : la1 = la2 := h.2.1.1
    have HF := Lib.hid (fun k (hk : k < la1) => show (lsR a0_0 a0_1 xa1 xa2).getD k 0 = flN a0_0 a0_1 (xa1.getD k 0) (xa2.getD k 0) from rowOf_at _ _ _ (by rw [hl1]; exact hk))
    generalize lsR a0_0 a0_1 xa1 xa2 = fs at *
    clear h e0 e1
    go_enter Try.func27, Try.ntmps27
    go_wp2_with (go_at_call 52; refine (l09Series_t _ _ _ _ _ _ _ _ xa1 xa2 _ ha1 ha2 ((RA.out.below (by repeat (first | assumption | exact Below.refl _ _ | (refine Below.setCell ?_ (by first | omega | (simp; done) | (simp; omega)) _) | apply below_drewN | apply Below.drew | (refine Below.alloc ?_ (by first | omega | (simp; done) | (simp; omega)) _)))).mono (by first | omega | (simp; done) | (simp; omega))) ((RB.out.below (by repeat (first | assumption | exact Below.refl _ _ | (refine Below.setCell ?_ (by first | omega | (simp; done) | (simp; omega)) _) | apply below_drewN | apply Below.drew | (refine Below.alloc ?_ (by first | omega | (simp; done) | (simp; omega)) _)))).mono (by first | omega | (simp; done) | (simp; omega))) 0 HC.out).mono ?_; rintro eo w0 ⟨rfl, b0⟩; obtain ⟨k0, f0⟩ := bcell b0; have p0 : w0.cell? ⟨w.heap.size, 0, none⟩ = some (.int .i64 a0_0) := (by rw [k0 _ _ (by first | omega | (simp; done) | (simp; omega))]; first | (simp; done) | go_simp); have pf0 : w0.frozen? ⟨w.heap.size, 0, none⟩ = false := (by rw [f0 _ _ (by first | omega | (simp; done) | (simp; omega))]; first | (simp; done) | go_simp); have p1 : w0.cell? ⟨w.heap.size, 1, none⟩ = some (.int .i64 a0_1) := (by rw [k0 _ _ (by first | omega | (simp; done) | (simp; omega))]; first | (simp; done) | go_simp); have pf1 : w0.frozen? ⟨w.heap.size, 1, none⟩ = false := (by rw [f0 _ _ (by first | omega | (simp; done) | (simp; omega))]; first | (simp; done) | go_simp); have d0 : Below w.heap.size w w0 := (by repeat (first | assumption | exact Below.refl _ _ | (refine Below.trans ?_ (b0.mono (by first | omega | (simp; done) | (simp; omega)))) | (refine Below.setCell ?_ (by first | omega | (simp; done) | (simp; omega)) _) | apply below_drewN | apply Below.drew | (refine Below.alloc ?_ (by first | omega | (simp; done) | (simp; omega)) _))); have s0 : w.heap.size < w0.heap.size := (by have := b0.size; (try simp at this); omega); clear k0 f0 b0)
    have P0 := Lib.hid p0
    have P1 := Lib.hid p1
    clear p0 p1 pf0 pf1
    go_loopw [9, 10, 11] (fun ms nw i wr => ∃ k : Nat, k ≤ la1 ∧ i = .int .i64 (k : Int) ∧ nw = .int .i64 (dryN fs k : Int) ∧ ms = .int .i64 (mxN fs k) ∧ Below w.heap.size w wr ∧ w.heap.size < wr.heap.size ∧ wr.cell? ⟨w.heap.size, 0, none⟩ = some (.int .i64 a0_0) ∧ wr.cell? ⟨w.heap.size, 1, none⟩ = some (.int .i64 a0_1)) (fun _ _ i _ => la1 - (intOf i).toNat)
    case atStart => exact ⟨0, by omega, rfl, rfl, rfl, d0, s0, P0.out, P1.out⟩
    case round =>
      obtain ⟨k, hk, rfl, rfl, rfl, hb, hsz, u0, u1⟩ := hrel
      by_cases hlt : k < la1
      · obtain ⟨ab, o, rfl, hbB, hc⟩ := (RA.out.below hb).2 (by omega)
        obtain ⟨ab', o', rfl, hbB', hc'⟩ := (RB.out.below hb).2 (by omega)
        have c1 := hc k hlt
        have c2 := hc' k hlt
        clear hc hc'
        have hF := HF.out k hlt
        obtain ⟨x, hx⟩ : ∃ x, x = xa1.getD k 0 := ⟨_, rfl⟩
        obtain ⟨y, hy⟩ : ∃ y, y = xa2.getD k 0 := ⟨_, rfl⟩
        rw [← hx] at c1 hF
        rw [← hy] at c2 hF
        have HX := Lib.hid (show slv x by rw [hx]; exact HH.out.2.1 k hlt)
        have HY := Lib.hid (show slv y by rw [hy]; exact HH.out.2.2 k hlt)
        obtain ⟨q, hq⟩ : ∃ q, q = flN a0_0 a0_1 x y := ⟨_, rfl⟩
        rw [← hq] at hF
        have HQ := Lib.hid hq
        have hdl := dryN_le fs k
        have HM := Lib.hid (show mxN fs (k + 1) = max (mxN fs k) (dryN fs (k + 1) : Int) from rfl)
        have hD : dryN fs (k + 1) = if 0 < q then 0 else dryN fs k + 1 := by simp only [dryN]; rw [hF]
        obtain ⟨dn, hdn⟩ : ∃ dn, dn = dryN fs k := ⟨_, rfl⟩
        obtain ⟨mx, hmx⟩ : ∃ mx, mx = mxN fs k := ⟨_, rfl⟩
        rw [← hdn] at hD hdl ⊢
        rw [← hmx] at HM ⊢
        clear hx hy hq hF hdn hmx
        have f1 := IntWalk.i64_in ((dn : Int) + 1) (by omega)
        by_cases hg : 0 < q
        · rw [if_pos hg] at hD
          have HD := Lib.hid hD
          clear hD
          go_wp2_with fail
          refine wp_region_held_drew (S := fun w' => w'.cell? ⟨w.heap.size, 0, none⟩ = some (.int .i64 a0_0) ∧ w'.cell? ⟨w.heap.size, 1, none⟩ = some (.int .i64 a0_1) ∧ w'.cell? ⟨ab, o + k, none⟩ = some (.int .i64 x) ∧ w'.cell? ⟨ab', o' + k, none⟩ = some (.int .i64 y)) (by kernel_rfl) ⟨u0, u1, c1, c2⟩ (fun hHeld => ?_)
          ((refine wpAnyH_take (i := 0) (oi := ⟨some 27, _, _, _, _, _⟩) (v := ?_) rfl (by kernel_rfl) (by kernel_rfl) (by kernel_rfl) (fun _ _ _ h => h) (Or.inl ⟨by rfl, ?_⟩) (by assumption) ?_; rotate_left 1; (focus (intro w hSw; (try dsimp only at hSw); go_simp <;> try (first | (with_reducible rfl) | (rw [if_neg (by omega)])))); try simp only [Act.put, List.setIfInBounds_toArray, List.set_cons_zero, List.set_cons_succ]); (refine wpAnyH_take (i := 1) (oi := ⟨some 28, _, _, _, _, _⟩) (v := ?_) rfl (by kernel_rfl) (by kernel_rfl) (by kernel_rfl) (fun _ _ _ h => h) (Or.inl ⟨by rfl, ?_⟩) (by assumption) ?_; rotate_left 1; (focus (intro w hSw; (try dsimp only at hSw); go_simp <;> try (first | (with_reducible rfl) | (rw [if_neg (by omega)])))); try simp only [Act.put, List.setIfInBounds_toArray, List.set_cons_zero, List.set_cons_succ]); (refine wpAnyH_take (i := 2) (oi := ⟨some 29, _, _, _, _, _⟩) (v := ?_) rfl (by kernel_rfl) (by kernel_rfl) (by kernel_rfl) (fun _ _ _ h => h) (Or.inl ⟨by rfl, ?_⟩) (by assumption) ?_; rotate_left 1; (focus (intro w hSw; (try dsimp only at hSw); go_simp <;> try (first | (with_reducible rfl) | (rw [if_neg (by omega)])))); try simp only [Act.put, List.setIfInBounds_toArray, List.set_cons_zero, List.set_cons_succ]); (refine wpAnyH_take (i := 3) (oi := ⟨some 30, _, _, _, _, _⟩) (v := ?_) rfl (by kernel_rfl) (by kernel_rfl) (by kernel_rfl) (fun _ _ _ h => h) (Or.inl ⟨by rfl, ?_⟩) (by assumption) ?_; rotate_left 1; (focus (intro w hSw; (try dsimp only at hSw); go_simp <;> try (first | (with_reducible rfl) | (rw [if_neg (by omega)])))); try simp only [Act.put, List.setIfInBounds_toArray, List.set_cons_zero, List.set_cons_succ]); (refine wpAnyH_take (i := 4) (oi := ⟨some 31, _, _, _, _, _⟩) (v := ?_) rfl (by kernel_rfl) (by kernel_rfl) (by kernel_rfl) (fun _ _ _ h => h) (Or.inl ⟨by rfl, ?_⟩) (by assumption) ?_; rotate_left 1; (focus (intro w hSw; (try dsimp only at hSw); go_simp <;> try (first | (with_reducible rfl) | (rw [if_neg (by omega)])))); try simp only [Act.put, List.setIfInBounds_toArray, List.set_cons_zero, List.set_cons_succ]); (refine wpAnyH_take (i := 5) (oi := ⟨some 32, _, _, _, _, _⟩) (v := ?_) rfl (by kernel_rfl) (by kernel_rfl) (by kernel_rfl) (fun _ _ _ h => h) (Or.inl ⟨by rfl, ?_⟩) (by assumption) ?_; rotate_left 1; (focus (intro w hSw; (try dsimp only at hSw); go_simp <;> try (first | (with_reducible rfl) | (rw [if_neg (by omega)])))); try simp only [Act.put, List.setIfInBounds_toArray, List.set_cons_zero, List.set_cons_succ]); (refine wpAnyH_take (i := 6) (oi := ⟨some 33, _, _, _, _, _⟩) (v := ?_) rfl (by kernel_rfl) (by kernel_rfl) (by kernel_rfl) (fun _ _ _ h => h) (Or.inl ⟨by rfl, ?_⟩) (by assumption) ?_; rotate_left 1; (focus (intro w hSw; (try dsimp only at hSw); go_simp <;> try (first | (with_reducible rfl) | (rw [if_neg (by omega)])))); try simp only [Act.put, List.setIfInBounds_toArray, List.set_cons_zero, List.set_cons_succ]); (refine wpAnyH_take (i := 7) (oi := ⟨some 34, _, _, _, _, _⟩) (v := ?_) rfl (by kernel_rfl) (by kernel_rfl) (by kernel_rfl) (fun _ _ _ h => h) (Or.inl ⟨by rfl, ?_⟩) (by assumption) ?_; rotate_left 1; (focus (intro w hSw; (try dsimp only at hSw); go_simp <;> try (first | (with_reducible rfl) | (rw [if_neg (by omega)])))); try simp only [Act.put, List.setIfInBounds_toArray, List.set_cons_zero, List.set_cons_succ]); (refine wpAnyH_take (i := 8) (oi := ⟨some 35, _, _, _, _, _⟩) (v := ?_) rfl (by kernel_rfl) (by kernel_rfl) (by kernel_rfl) (fun _ _ _ h => h) (Or.inl ⟨by rfl, ?_⟩) (by assumption) ?_; rotate_left 1; (focus (intro w hSw; (try dsimp only at hSw); go_simp <;> try (first | (with_reducible rfl) | (rw [if_neg (by omega)])))); try simp only [Act.put, List.setIfInBounds_toArray, List.set_cons_zero, List.set_cons_succ]))
          (refine wpAnyH_ready (rs := [9]) (by kernel_rfl) (by simp) ?_; refine AllReadyH.cons rfl (fun K hK => ?_) AllReadyH.nil; go_simp)
          refine (flowS_t _ _ _ _ _ HS.out HX.out HY.out q HQ.out).mono ?_
          rintro e1 W1 ⟨rfl, b1⟩
          have z0 := (b1.cell (p := ⟨w.heap.size, 0, none⟩) (by first | omega | (simp; done) | (simp; omega))).trans hHeld.1
          have z1 := (b1.cell (p := ⟨w.heap.size, 1, none⟩) (by first | omega | (simp; done) | (simp; omega))).trans hHeld.2.1
          have z2 := (b1.cell (p := ⟨ab, o + k, none⟩) (by first | omega | (simp; done) | (simp; omega))).trans hHeld.2.2.1
          have z3 := (b1.cell (p := ⟨ab', o' + k, none⟩) (by first | omega | (simp; done) | (simp; omega))).trans hHeld.2.2.2
          have d1 : Below w.heap.size w W1 := (by repeat (first | assumption | exact Below.refl _ _ | (refine Below.trans ?_ (b1.mono (by first | omega | (simp; done) | (simp; omega)))) | (refine Below.trans ?_ (hb.mono (by first | omega | (simp; done) | (simp; omega)))) | (refine Below.setCell ?_ (by first | omega | (simp; done) | (simp; omega)) _) | apply below_drewN | apply Below.drew | (refine Below.alloc ?_ (by first | omega | (simp; done) | (simp; omega)) _)))
          have s1 : w.heap.size < W1.heap.size := (by have := b1.size; (try simp at this); omega)
          clear b1
          clear hHeld
          (refine hK.out _ _ ?_ (fun hHeld => ?_))
          · exact ⟨z0, z1, z2, z3⟩
          ((refine wpAnyH_take (i := 10) (oi := ⟨some 37, _, _, _, _, _⟩) (v := ?_) rfl (by kernel_rfl) (by kernel_rfl) (by kernel_rfl) (fun _ _ _ h => h) (Or.inl ⟨by rfl, ?_⟩) (by assumption) ?_; rotate_left 1; (focus (intro w hSw; (try dsimp only at hSw); go_simp <;> try (first | (with_reducible rfl) | (rw [if_neg (by omega)])))); try simp only [Act.put, List.setIfInBounds_toArray, List.set_cons_zero, List.set_cons_succ]))
          refine wpAnyH_done (by kernel_rfl) ?_ _
          go_wp2_with (go_at_call 57; refine (max_t _ _ _).mono ?_; rintro e3 w3 ⟨rfl, rfl⟩)
          go_roundw
          case rel => exact ⟨k + 1, by omega, by go_num, by rw [HD.out]; rfl, by rw [HM.out, HD.out]; rfl, d1, s1, z0, z1⟩
          case measure => simp [intOf]; omega
        · rw [if_neg hg] at hD
          have HD := Lib.hid hD
          have hg' : q ≤ 0 := by omega
          clear hD hg
          go_wp2_with fail
          refine wp_region_held_drew (S := fun w' => w'.cell? ⟨w.heap.size, 0, none⟩ = some (.int .i64 a0_0) ∧ w'.cell? ⟨w.heap.size, 1, none⟩ = some (.int .i64 a0_1) ∧ w'.cell? ⟨ab, o + k, none⟩ = some (.int .i64 x) ∧ w'.cell? ⟨ab', o' + k, none⟩ = some (.int .i64 y)) (by kernel_rfl) ⟨u0, u1, c1, c2⟩ (fun hHeld => ?_)
          ((refine wpAnyH_take (i := 0) (oi := ⟨some 27, _, _, _, _, _⟩) (v := ?_) rfl (by kernel_rfl) (by kernel_rfl) (by kernel_rfl) (fun _ _ _ h => h) (Or.inl ⟨by rfl, ?_⟩) (by assumption) ?_; rotate_left 1; (focus (intro w hSw; (try dsimp only at hSw); go_simp <;> try (first | (with_reducible rfl) | (rw [if_neg (by omega)])))); try simp only [Act.put, List.setIfInBounds_toArray, List.set_cons_zero, List.set_cons_succ]); (refine wpAnyH_take (i := 1) (oi := ⟨some 28, _, _, _, _, _⟩) (v := ?_) rfl (by kernel_rfl) (by kernel_rfl) (by kernel_rfl) (fun _ _ _ h => h) (Or.inl ⟨by rfl, ?_⟩) (by assumption) ?_; rotate_left 1; (focus (intro w hSw; (try dsimp only at hSw); go_simp <;> try (first | (with_reducible rfl) | (rw [if_neg (by omega)])))); try simp only [Act.put, List.setIfInBounds_toArray, List.set_cons_zero, List.set_cons_succ]); (refine wpAnyH_take (i := 2) (oi := ⟨some 29, _, _, _, _, _⟩) (v := ?_) rfl (by kernel_rfl) (by kernel_rfl) (by kernel_rfl) (fun _ _ _ h => h) (Or.inl ⟨by rfl, ?_⟩) (by assumption) ?_; rotate_left 1; (focus (intro w hSw; (try dsimp only at hSw); go_simp <;> try (first | (with_reducible rfl) | (rw [if_neg (by omega)])))); try simp only [Act.put, List.setIfInBounds_toArray, List.set_cons_zero, List.set_cons_succ]); (refine wpAnyH_take (i := 3) (oi := ⟨some 30, _, _, _, _, _⟩) (v := ?_) rfl (by kernel_rfl) (by kernel_rfl) (by kernel_rfl) (fun _ _ _ h => h) (Or.inl ⟨by rfl, ?_⟩) (by assumption) ?_; rotate_left 1; (focus (intro w hSw; (try dsimp only at hSw); go_simp <;> try (first | (with_reducible rfl) | (rw [if_neg (by omega)])))); try simp only [Act.put, List.setIfInBounds_toArray, List.set_cons_zero, List.set_cons_succ]); (refine wpAnyH_take (i := 4) (oi := ⟨some 31, _, _, _, _, _⟩) (v := ?_) rfl (by kernel_rfl) (by kernel_rfl) (by kernel_rfl) (fun _ _ _ h => h) (Or.inl ⟨by rfl, ?_⟩) (by assumption) ?_; rotate_left 1; (focus (intro w hSw; (try dsimp only at hSw); go_simp <;> try (first | (with_reducible rfl) | (rw [if_neg (by omega)])))); try simp only [Act.put, List.setIfInBounds_toArray, List.set_cons_zero, List.set_cons_succ]); (refine wpAnyH_take (i := 5) (oi := ⟨some 32, _, _, _, _, _⟩) (v := ?_) rfl (by kernel_rfl) (by kernel_rfl) (by kernel_rfl) (fun _ _ _ h => h) (Or.inl ⟨by rfl, ?_⟩) (by assumption) ?_; rotate_left 1; (focus (intro w hSw; (try dsimp only at hSw); go_simp <;> try (first | (with_reducible rfl) | (rw [if_neg (by omega)])))); try simp only [Act.put, List.setIfInBounds_toArray, List.set_cons_zero, List.set_cons_succ]); (refine wpAnyH_take (i := 6) (oi := ⟨some 33, _, _, _, _, _⟩) (v := ?_) rfl (by kernel_rfl) (by kernel_rfl) (by kernel_rfl) (fun _ _ _ h => h) (Or.inl ⟨by rfl, ?_⟩) (by assumption) ?_; rotate_left 1; (focus (intro w hSw; (try dsimp only at hSw); go_simp <;> try (first | (with_reducible rfl) | (rw [if_neg (by omega)])))); try simp only [Act.put, List.setIfInBounds_toArray, List.set_cons_zero, List.set_cons_succ]); (refine wpAnyH_take (i := 7) (oi := ⟨some 34, _, _, _, _, _⟩) (v := ?_) rfl (by kernel_rfl) (by kernel_rfl) (by kernel_rfl) (fun _ _ _ h => h) (Or.inl ⟨by rfl, ?_⟩) (by assumption) ?_; rotate_left 1; (focus (intro w hSw; (try dsimp only at hSw); go_simp <;> try (first | (with_reducible rfl) | (rw [if_neg (by omega)])))); try simp only [Act.put, List.setIfInBounds_toArray, List.set_cons_zero, List.set_cons_succ]); (refine wpAnyH_take (i := 8) (oi := ⟨some 35, _, _, _, _, _⟩) (v := ?_) rfl (by kernel_rfl) (by kernel_rfl) (by kernel_rfl) (fun _ _ _ h => h) (Or.inl ⟨by rfl, ?_⟩) (by assumption) ?_; rotate_left 1; (focus (intro w hSw; (try dsimp only at hSw); go_simp <;> try (first | (with_reducible rfl) | (rw [if_neg (by omega)])))); try simp only [Act.put, List.setIfInBounds_toArray, List.set_cons_zero, List.set_cons_succ]))
          (refine wpAnyH_ready (rs := [9]) (by kernel_rfl) (by simp) ?_; refine AllReadyH.cons rfl (fun K hK => ?_) AllReadyH.nil; go_simp)
          refine (flowS_t _ _ _ _ _ HS.out HX.out HY.out q HQ.out).mono ?_
          rintro e1 W1 ⟨rfl, b1⟩
          have z0 := (b1.cell (p := ⟨w.heap.size, 0, none⟩) (by first | omega | (simp; done) | (simp; omega))).trans hHeld.1
          have z1 := (b1.cell (p := ⟨w.heap.size, 1, none⟩) (by first | omega | (simp; done) | (simp; omega))).trans hHeld.2.1
          have z2 := (b1.cell (p := ⟨ab, o + k, none⟩) (by first | omega | (simp; done) | (simp; omega))).trans hHeld.2.2.1
          have z3 := (b1.cell (p := ⟨ab', o' + k, none⟩) (by first | omega | (simp; done) | (simp; omega))).trans hHeld.2.2.2
          have d1 : Below w.heap.size w W1 := (by repeat (first | assumption | exact Below.refl _ _ | (refine Below.trans ?_ (b1.mono (by first | omega | (simp; done) | (simp; omega)))) | (refine Below.trans ?_ (hb.mono (by first | omega | (simp; done) | (simp; omega)))) | (refine Below.setCell ?_ (by first | omega | (simp; done) | (simp; omega)) _) | apply below_drewN | apply Below.drew | (refine Below.alloc ?_ (by first | omega | (simp; done) | (simp; omega)) _)))
          have s1 : w.heap.size < W1.heap.size := (by have := b1.size; (try simp at this); omega)
          clear b1
          clear hHeld
          (refine hK.out _ _ ?_ (fun hHeld => ?_))
          · exact ⟨z0, z1, z2, z3⟩
          ((refine wpAnyH_take (i := 10) (oi := ⟨some 37, _, _, _, _, _⟩) (v := ?_) rfl (by kernel_rfl) (by kernel_rfl) (by kernel_rfl) (fun _ _ _ h => h) (Or.inl ⟨by rfl, ?_⟩) (by assumption) ?_; rotate_left 1; (focus (intro w hSw; (try dsimp only at hSw); go_simp <;> try (first | (with_reducible rfl) | (rw [if_neg (by omega)])))); try simp only [Act.put, List.setIfInBounds_toArray, List.set_cons_zero, List.set_cons_succ]))
          refine wpAnyH_done (by kernel_rfl) ?_ _
          go_wp2_with (go_at_call 57; refine (max_t _ _ _).mono ?_; rintro e3 w3 ⟨rfl, rfl⟩)
          go_roundw
          case rel => exact ⟨k + 1, by omega, by go_num, by rw [HD.out]; simp, by rw [HM.out, HD.out]; simp, d1, s1, z0, z1⟩
          case measure => simp [intOf]; omega
      · obtain rfl : k = la1 := by omega
        go_wp2
        go_ret2
        exact ⟨rfl, hb⟩
  · have e0 : r0_LongestShut a0_0 a0_1 xa1 xa2 = 0 := by unfold r0_LongestShut; rw [hl1, hl2, if_neg h]
    have e2 := sc3_ne h
    have hC : r1_LongestShut a0_0 a0_1 xa1 xa2 = sc3 (slOk a0_0 a0_1) (hrOk la1 la2 xa1 xa2) := by unfold r1_LongestShut; rw [hl1, hl2]
    rw [← hC] at e2
    rw [e0]
    generalize r1_LongestShut a0_0 a0_1 xa1 xa2 = C at *
    have HC := Lib.hid hC
    have e4 : (C != 0) = true := by simpa using e2
    clear h e0 hC e2
    go_enter Try.func27, Try.ntmps27
    go_wp2_with (go_at_call 52; refine (l09Series_t _ _ _ _ _ _ _ _ xa1 xa2 _ ha1 ha2 ((RA.out.below (by repeat (first | assumption | exact Below.refl _ _ | (refine Below.setCell ?_ (by first | omega | (simp; done) | (simp; omega)) _) | apply below_drewN | apply Below.drew | (refine Below.alloc ?_ (by first | omega | (simp; done) | (simp; omega)) _)))).mono (by first | omega | (simp; done) | (simp; omega))) ((RB.out.below (by repeat (first | assumption | exact Below.refl _ _ | (refine Below.setCell ?_ (by first | omega | (simp; done) | (simp; omega)) _) | apply below_drewN | apply Below.drew | (refine Below.alloc ?_ (by first | omega | (simp; done) | (simp; omega)) _)))).mono (by first | omega | (simp; done) | (simp; omega))) C HC.out).mono ?_; rintro eo w0 ⟨rfl, b0⟩)
    exact bodyPost_ret (v := .tuple #[.int .i64 0, .int .i64 C]) (by simp [results, Try.results27, go_sem]) rfl ⟨rfl, (by repeat (first | assumption | exact Below.refl _ _ | (refine Below.trans ?_ (b0.mono (by first | omega | (simp; done) | (simp; omega)))) | (refine Below.setCell ?_ (by first | omega | (simp; done) | (simp; omega)) _) | apply below_drewN | apply Below.drew | (refine Below.alloc ?_ (by first | omega | (simp; done) | (simp; omega)) _)))⟩

set_option maxHeartbeats 1600000 in
theorem implC_LongestShut (a0_0 : Int) (a0_1 : Int) (a1 : Option Addr) (la1 ca1 : Nat) (xa1 : List Int) (a2 : Option Addr) (la2 ca2 : Nat) (xa2 : List Int) (w : World) (ha0_0 : (Lit.int .i64 a0_0).wf = true) (ha0_1 : (Lit.int .i64 a0_1).wf = true) (ha1 : la1 ≤ 1048576) (ra1 : Rd w w.heap.size a1 la1 xa1) (fa1 : Wf xa1) (ha2 : la2 ≤ 1048576) (ra2 : Rd w w.heap.size a2 la2 xa2) (fa2 : Wf xa2) :
    Calls Try.prog 28 #[.agg #[.int .i64 a0_0, .int .i64 a0_1], .slice a1 la1 ca1, .slice a2 la2 ca2] w fun e w' => e = .returned (.tuple #[.int .i64 (r0_LongestShut a0_0 a0_1 xa1 xa2), .int .i64 (r1_LongestShut a0_0 a0_1 xa1 xa2)]) ∧ Below w.heap.size w w' := by
  have hl1 := ra1.1
  have hl2 := ra2.1
  have RA := Lib.hid ra1
  have RB := Lib.hid ra2
  clear ra1 ra2
  obtain ⟨v, hv⟩ : ∃ v, v = decide (slOk a0_0 a0_1) := ⟨_, rfl⟩
  obtain ⟨r, hr⟩ : ∃ r, r = decide (hrOk la1 la2 xa1 xa2) := ⟨_, rfl⟩
  have HV := Lib.hid hv
  have HR := Lib.hid hr
  have hk : r1_LongestShut a0_0 a0_1 xa1 xa2 = if v then (if r then 0 else 2) else 1 := by unfold r1_LongestShut sc3; rw [hl1, hl2, hv, hr]; simp
  by_cases h : slOk a0_0 a0_1 ∧ hrOk la1 la2 xa1 xa2
  · have e0 : r0_LongestShut a0_0 a0_1 xa1 xa2 = mxN (lsR a0_0 a0_1 xa1 xa2) la1 := by unfold r0_LongestShut; rw [hl1, hl2, if_pos h]
    have e1 : r1_LongestShut a0_0 a0_1 xa1 xa2 = 0 := by unfold r1_LongestShut; rw [hl1, hl2]; exact sc3_ok h.1 h.2
    rw [e0, e1]
    obtain rfl : v = true := by rw [hv]; exact decide_eq_true h.1
    obtain rfl : r = true := by rw [hr]; exact decide_eq_true h.2
    have HS := Lib.hid h.1
    have HX := Lib.hid h.2.2.1
    have HY := Lib.hid h.2.2.2
    have h200 := h.2.1.2
    obtain rfl : la1 = la2 := h.2.1.1
    have hfs : lsR a0_0 a0_1 xa1 xa2 = rowOf (flA a0_0 a0_1 xa1 xa2) la1 := by unfold lsR; rw [hl1]
    obtain ⟨m, hm⟩ : ∃ m, m = mxN (lsR a0_0 a0_1 xa1 xa2) la1 := ⟨_, rfl⟩
    have HM := Lib.hid (show lgN (spN (rowOf (flA a0_0 a0_1 xa1 xa2) la1) la1 la1) (spN (rowOf (flA a0_0 a0_1 xa1 xa2) la1) la1 la1).length = m by rw [mx_eq, hm, hfs])
    have HN := Lib.hid (show ∀ j, j < la1 → 0 ≤ (rowOf (flA a0_0 a0_1 xa1 xa2) la1).getD j 0 from fun j hj => by rw [rowOf_at _ _ _ hj]; exact (flN_bd h.1 (h.2.2.1 j hj) (h.2.2.2 j hj)).1)
    rw [← hm]
    clear h e0 e1 hv hr hk hm hfs
    go_enter Try.func28, Try.ntmps28
    go_wp2_with (first | (go_at_call 41; refine (sluI_any _ _ _ _ HV.out).mono ?_; rintro ec wc ⟨rfl, bc⟩; obtain ⟨kc, fc⟩ := bcell bc; have x0 : wc.cell? ⟨w.heap.size, 0, none⟩ = some (.int .i64 a0_0) := (by rw [kc _ _ (by first | omega | (simp; done) | (simp; omega))]; first | (simp; done) | go_simp); have xf0 : wc.frozen? ⟨w.heap.size, 0, none⟩ = false := (by rw [fc _ _ (by first | omega | (simp; done) | (simp; omega))]; first | (simp; done) | go_simp); have x1 : wc.cell? ⟨w.heap.size, 1, none⟩ = some (.int .i64 a0_1) := (by rw [kc _ _ (by first | omega | (simp; done) | (simp; omega))]; first | (simp; done) | go_simp); have xf1 : wc.frozen? ⟨w.heap.size, 1, none⟩ = false := (by rw [fc _ _ (by first | omega | (simp; done) | (simp; omega))]; first | (simp; done) | go_simp); have dc : Below w.heap.size w wc := (by repeat (first | assumption | exact Below.refl _ _ | (refine Below.trans ?_ (bc.mono (by first | omega | (simp; done) | (simp; omega)))) | (refine Below.setCell ?_ (by first | omega | (simp; done) | (simp; omega)) _) | apply below_drewN | apply Below.drew | (refine Below.alloc ?_ (by first | omega | (simp; done) | (simp; omega)) _))); have sc : w.heap.size < wc.heap.size := (by have := bc.size; (try simp at this); omega); clear kc fc bc) | (go_at_call 53; refine (areHours_any _ _ _ _ _ _ xa1 xa2 _ ha1 ha2 ((RA.out.below dc).mono (by first | omega | (simp; done) | (simp; omega))) ((RB.out.below dc).mono (by first | omega | (simp; done) | (simp; omega))) true HR.out).mono ?_; rintro ed W2 ⟨rfl, bd⟩; have y0 : W2.cell? ⟨w.heap.size, 0, none⟩ = _ := (bd.cell (p := ⟨w.heap.size, 0, none⟩) (show w.heap.size < _ from (by first | omega | (simp; done) | (simp; omega)))).trans x0; have yf0 : W2.frozen? ⟨w.heap.size, 0, none⟩ = _ := (bd.frozen (p := ⟨w.heap.size, 0, none⟩) (show w.heap.size < _ from (by first | omega | (simp; done) | (simp; omega)))).trans xf0; have y1 : W2.cell? ⟨w.heap.size, 1, none⟩ = _ := (bd.cell (p := ⟨w.heap.size, 1, none⟩) (show w.heap.size < _ from (by first | omega | (simp; done) | (simp; omega)))).trans x1; have yf1 : W2.frozen? ⟨w.heap.size, 1, none⟩ = _ := (bd.frozen (p := ⟨w.heap.size, 1, none⟩) (show w.heap.size < _ from (by first | omega | (simp; done) | (simp; omega)))).trans xf1; have dd : Below w.heap.size w W2 := (by repeat (first | assumption | exact Below.refl _ _ | (refine Below.trans ?_ (bd.mono (by first | omega | (simp; done) | (simp; omega)))) | (refine Below.trans ?_ (dc.mono (by first | omega | (simp; done) | (simp; omega)))) | (refine Below.setCell ?_ (by first | omega | (simp; done) | (simp; omega)) _) | apply below_drewN | apply Below.drew | (refine Below.alloc ?_ (by first | omega | (simp; done) | (simp; omega)) _))); have sd : w.heap.size < W2.heap.size := (by have := bd.size; (try simp at this); omega); clear bd) | (go_at_call 40; refine (codeFor_k true true _ 0 rfl).mono ?_; rintro ee we ⟨rfl, rfl⟩) | (go_at_call 59; refine (flows_t _ _ _ _ la1 _ _ xa1 xa2 _ h200 HS.out HX.out HY.out ((RA.out.below dd).mono (by first | omega | (simp; done) | (simp; omega))) ((RB.out.below dd).mono (by first | omega | (simp; done) | (simp; omega)))).mono ?_; rintro ef wf ⟨rfl, bf, gf, xf⟩; have HWf := Lib.hid xf; clear xf) | (go_at_call 58; refine (longestZ_r _ _ la1 _ _ _ (by omega) HN.out gf HWf.out.rd m HM.out).mono ?_; rintro eg wg ⟨rfl, bg⟩))
    go_ret2
    exact ⟨rfl, (by repeat (first | assumption | exact Below.refl _ _ | (refine Below.trans ?_ (bg.mono (by first | omega | (simp; done) | (simp; omega)))) | (refine Below.trans ?_ (bf.mono (by first | omega | (simp; done) | (simp; omega)))) | (refine Below.trans ?_ (dd.mono (by first | omega | (simp; done) | (simp; omega)))) | (refine Below.setCell ?_ (by first | omega | (simp; done) | (simp; omega)) _) | apply below_drewN | apply Below.drew | (refine Below.alloc ?_ (by first | omega | (simp; done) | (simp; omega)) _)))⟩
  · have e0 : r0_LongestShut a0_0 a0_1 xa1 xa2 = 0 := by unfold r0_LongestShut; rw [hl1, hl2, if_neg h]
    have e2 := sc3_ne h
    rw [e0]
    have hC : r1_LongestShut a0_0 a0_1 xa1 xa2 = sc3 (slOk a0_0 a0_1) (hrOk la1 la2 xa1 xa2) := by unfold r1_LongestShut; rw [hl1, hl2]
    rw [← hC] at e2
    generalize r1_LongestShut a0_0 a0_1 xa1 xa2 = C at *
    have HK := Lib.hid hk
    have e4 : (C != 0) = true := by simpa using e2
    clear h e0 hv hr hk hC e2
    go_enter Try.func28, Try.ntmps28
    go_wp2_with (first | (go_at_call 41; refine (sluI_any _ _ _ v HV.out).mono ?_; rintro ec wc ⟨rfl, bc⟩; have dc : Below w.heap.size w wc := (by repeat (first | assumption | exact Below.refl _ _ | (refine Below.trans ?_ (bc.mono (by first | omega | (simp; done) | (simp; omega)))) | (refine Below.setCell ?_ (by first | omega | (simp; done) | (simp; omega)) _) | apply below_drewN | apply Below.drew | (refine Below.alloc ?_ (by first | omega | (simp; done) | (simp; omega)) _))); have sc : w.heap.size < wc.heap.size := (by have := bc.size; (try simp at this); omega); clear bc) | (go_at_call 53; refine (areHours_any _ _ _ _ _ _ xa1 xa2 _ ha1 ha2 ((RA.out.below dc).mono (by first | omega | (simp; done) | (simp; omega))) ((RB.out.below dc).mono (by first | omega | (simp; done) | (simp; omega))) r HR.out).mono ?_; rintro ed W2 ⟨rfl, bd⟩; have dd : Below w.heap.size w W2 := (by repeat (first | assumption | exact Below.refl _ _ | (refine Below.trans ?_ (bd.mono (by first | omega | (simp; done) | (simp; omega)))) | (refine Below.trans ?_ (dc.mono (by first | omega | (simp; done) | (simp; omega)))) | (refine Below.setCell ?_ (by first | omega | (simp; done) | (simp; omega)) _) | apply below_drewN | apply Below.drew | (refine Below.alloc ?_ (by first | omega | (simp; done) | (simp; omega)) _)))) | (go_at_call 40; refine (codeFor_k v r _ C HK.out).mono ?_; rintro ee we ⟨rfl, rfl⟩))
    exact bodyPost_ret (v := .tuple #[.int .i64 0, .int .i64 C]) (by simp [results, Try.results28, go_sem]) rfl ⟨rfl, (by repeat (first | assumption | exact Below.refl _ _ | (refine Below.trans ?_ (dd.mono (by first | omega | (simp; done) | (simp; omega)))) | (refine Below.setCell ?_ (by first | omega | (simp; done) | (simp; omega)) _) | apply below_drewN | apply Below.drew | (refine Below.alloc ?_ (by first | omega | (simp; done) | (simp; omega)) _)))⟩

end Go.Proofs.Ytcimigaimlojlaa
