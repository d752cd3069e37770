/- ReadLevel of the program. -/
import Derived.Test.YtkbbflleonkjfaaGreatDoorReadI
import Derived.Test.YtkbbflleonkjfaaGreatDoorReadS
import Derived.Deep.RegionHeld3
import Derived.Laws.StructEq
namespace Go.Proofs.YtkbbflleonkjfaaGreatDoor
open Go.RowKit

instance (n : Int) : Decidable (isLv n) := by unfold isLv; exact inferInstance
theorem strF1 {a : ByteArray} {c : UInt8} (h : ¬ a = ⟨#[c]⟩) : (a.toList == [c]) = false := by
  have e : (⟨#[c]⟩ : ByteArray).toList = [c] := by rw [ByteArray.toList_eq]
  have := strF h
  rw [e] at this
  exact this
set_option maxHeartbeats 400000 in
theorem vlev_t (x : Int) (w : World) : Calls Tryz.prog 24 #[.int .i64 x] w fun e w' => e = .returned (.bool (decide (isLv x))) ∧ w = w' := by
  by_cases h : isLv x
  · rw [decide_eq_true h]
    obtain ⟨h1, h2⟩ := h
    go_enter Tryz.func24, Tryz.ntmps24
    go_wp2_with (first | (go_at_call 32; first | (refine (within_t _ _ _ _ (by omega)).mono ?_; rintro e w' ⟨rfl, rfl⟩) | (refine (within_f _ _ _ _ (by omega)).mono ?_; rintro e w' ⟨rfl, rfl⟩)))
    go_ret
    exact ⟨rfl, rfl⟩
  · rw [decide_eq_false h]
    have h' : x < -2000 ∨ 2000 < x := by unfold isLv at h; omega
    clear h
    go_enter Tryz.func24, Tryz.ntmps24
    go_wp2_with (first | (go_at_call 32; first | (refine (within_t _ _ _ _ (by omega)).mono ?_; rintro e w' ⟨rfl, rfl⟩) | (refine (within_f _ _ _ _ (by omega)).mono ?_; rintro e w' ⟨rfl, rfl⟩)))
    go_ret
    exact ⟨rfl, rfl⟩

set_option maxRecDepth 100000 in
set_option maxHeartbeats 1600000 in
theorem lev_t (sg : ByteArray) (m cc : Int) (w : World) (hc0 : 0 ≤ cc) (hc1 : cc ≤ 99) :
    Calls Tryz.prog 53 #[.agg #[.string sg, .int .i64 m, .int .i64 cc]] w fun e w' => ∃ N : Int, e = .returned (.int .i64 N) ∧ Below w.heap.size w w' ∧ (0 ≤ m → m ≤ 20 → (sg = ⟨#[45]⟩ → N = -(100 * m + cc)) ∧ (sg ≠ ⟨#[45]⟩ → N = 100 * m + cc)) := by
  by_cases hm : 0 ≤ m ∧ m ≤ 20
  · obtain ⟨m1, m2⟩ := hm
    by_cases hs : sg = ⟨#[45]⟩
    · subst hs
      go_enter Tryz.func53, Tryz.ntmps53
      go_wp2
      go_ret
      exact ⟨_, rfl, (by repeat (first | assumption | exact Below.refl _ _ | (refine Below.setCell ?_ (by first | omega | (simp; done) | (simp; omega)) _) | apply below_drewN | apply Below.drew | (refine Below.alloc ?_ (by first | omega | (simp; done) | (simp; omega)) _))), fun _ _ => ⟨fun _ => rfl, fun h => absurd rfl h⟩⟩
    · have gf := strF1 hs
      have HS := Lib.hid hs
      clear hs
      go_enter Tryz.func53, Tryz.ntmps53
      go_wp2
      go_ret
      exact ⟨_, rfl, (by repeat (first | assumption | exact Below.refl _ _ | (refine Below.setCell ?_ (by first | omega | (simp; done) | (simp; omega)) _) | apply below_drewN | apply Below.drew | (refine Below.alloc ?_ (by first | omega | (simp; done) | (simp; omega)) _))), fun _ _ => ⟨fun h => absurd h HS.out, fun _ => rfl⟩⟩
  · have HM := Lib.hid hm
    clear hm
    by_cases hs : sg = ⟨#[45]⟩
    · subst hs
      go_enter Tryz.func53, Tryz.ntmps53
      go_wp2
      go_ret
      exact ⟨_, rfl, (by repeat (first | assumption | exact Below.refl _ _ | (refine Below.setCell ?_ (by first | omega | (simp; done) | (simp; omega)) _) | apply below_drewN | apply Below.drew | (refine Below.alloc ?_ (by first | omega | (simp; done) | (simp; omega)) _))), fun h1 h2 => absurd ⟨h1, h2⟩ HM.out⟩
    · have gf := strF1 hs
      clear hs
      go_enter Tryz.func53, Tryz.ntmps53
      go_wp2
      go_ret
      exact ⟨_, rfl, (by repeat (first | assumption | exact Below.refl _ _ | (refine Below.setCell ?_ (by first | omega | (simp; done) | (simp; omega)) _) | apply below_drewN | apply Below.drew | (refine Below.alloc ?_ (by first | omega | (simp; done) | (simp; omega)) _))), fun h1 h2 => absurd ⟨h1, h2⟩ HM.out⟩

set_option maxRecDepth 100000 in
set_option maxHeartbeats 3200000 in
theorem rl_impl (s : ByteArray) (w : World) (hs : s.size ≤ 1048576) (env : NumEnv w) (ml : Int) (hml : w.cell? ⟨1, 0, none⟩ = some (.int .i64 ml)) (res : Option Int) (hres : ∀ n, res = some n ↔ isLv n ∧ s = levelB n) :
    Calls Tryz.prog 19 #[.string s] w fun e w' => e = .returned (.tuple #[.int .i64 (res.getD 0), .bool res.isSome]) ∧ Below w.heap.size w w' := by
  have HR := Lib.hid hres
  have HE := Lib.hid env
  have HM := Lib.hid hml
  clear hres env hml
  go_enter Tryz.func19, Tryz.ntmps19
  go_wp2_with fail
  refine (pot_t s _ hs HE.out ml HM.out).mono ?_
  rintro q1 w1 ⟨sg, m, cc, ok, rfl, b1, hP⟩
  obtain ⟨hsg, hok, hno⟩ := hP
  cases ok with
  | false =>
    have hn : res = none := by
      cases hr : res with
      | none => rfl
      | some n => exact absurd (lv_form ((HR.out n).1 hr).1 ((HR.out n).1 hr).2) (hno rfl _ _ _ _ _)
    subst hn
    clear hok hno
    go_wp2
    go_ret2
    exact ⟨rfl, b1.alloc b1.size _⟩
  | true =>
    obtain ⟨c0, rest, a, b, K, rfl, hcc⟩ := hok rfl
    have HK := Lib.hid K
    have hc01 : 0 ≤ cc ∧ cc ≤ 99 := by
      obtain ⟨a1, a2⟩ := K.2.2.2.1
      obtain ⟨b1, b2⟩ := K.2.2.2.2
      omega
    obtain ⟨cc0, cc1⟩ := hc01
    have HCC := Lib.hid hcc
    -- the parts of the level that the text may be
    have HU := Lib.hid (show ∀ n, res = some n → mkB [c0] = signB n ∧ m = ((n.natAbs / 100 : Nat) : Int) ∧ cc = ((n.natAbs % 100 : Nat) : Int) ∧ isLv n from fun n hr => by
      obtain ⟨h1, h2⟩ := (HR.out n).1 hr
      obtain ⟨e1, e2, e3, e4⟩ := K.inj (lv_form h1 h2)
      have t1 := ofNat_dig (n.natAbs % 100 / 10) (by omega)
      have t2 := ofNat_dig (n.natAbs % 10) (by omega)
      refine ⟨?_, e2, by rw [hcc, e3, e4, t1, t2]; omega, h1⟩
      rw [e1]
      unfold signB
      split <;> rfl)
    obtain ⟨SGN, hSGN⟩ : ∃ S, S = mkB [c0] := ⟨_, rfl⟩
    rw [← hSGN] at HU ⊢
    have HSG := Lib.hid hSGN
    clear hok hno K hcc hSGN hsg
    go_wp2_with fail
    refine (lev_t SGN m cc _ cc0 cc1).mono ?_
    rintro q2 w2 ⟨N, rfl, b2, hN⟩
    obtain ⟨k2, f2⟩ := bcell b2
    have s2 : w1.heap.size < w2.heap.size := by have := b2.size; simp at this; omega
    have z0 : w2.cell? ⟨w1.heap.size, 0, none⟩ = some (.string SGN) := (by rw [k2 _ _ (by first | omega | (simp; done) | (simp; omega))]; first | (simp; done) | go_simp); have zf0 : w2.frozen? ⟨w1.heap.size, 0, none⟩ = false := (by rw [f2 _ _ (by first | omega | (simp; done) | (simp; omega))]; first | (simp; done) | go_simp); have z1 : w2.cell? ⟨w1.heap.size, 1, none⟩ = some (.int .i64 m) := (by rw [k2 _ _ (by first | omega | (simp; done) | (simp; omega))]; first | (simp; done) | go_simp); have zf1 : w2.frozen? ⟨w1.heap.size, 1, none⟩ = false := (by rw [f2 _ _ (by first | omega | (simp; done) | (simp; omega))]; first | (simp; done) | go_simp); have z2 : w2.cell? ⟨w1.heap.size, 2, none⟩ = some (.int .i64 cc) := (by rw [k2 _ _ (by first | omega | (simp; done) | (simp; omega))]; first | (simp; done) | go_simp); have zf2 : w2.frozen? ⟨w1.heap.size, 2, none⟩ = false := (by rw [f2 _ _ (by first | omega | (simp; done) | (simp; omega))]; first | (simp; done) | go_simp)
    clear k2 f2
    have d1 : Below w.heap.size w w2 := b1.trans ((show Below w1.heap.size w1 w2 from (by repeat (first | assumption | exact Below.refl _ _ | (refine Below.trans ?_ (b2.mono (by first | omega | (simp; done) | (simp; omega)))) | (refine Below.setCell ?_ (by first | omega | (simp; done) | (simp; omega)) _) | apply below_drewN | apply Below.drew | (refine Below.alloc ?_ (by first | omega | (simp; done) | (simp; omega)) _)))).mono b1.size)
    have HN := Lib.hid (show ∀ n, res = some n → N = n from fun n hr => by
      obtain ⟨e1, e2, e3, h1, h2⟩ := HU.out n hr
      have hN2 := hN (by omega) (by omega)
      rw [e1] at hN2
      by_cases hneg : n < 0
      · have := hN2.1 (by unfold signB; rw [if_pos hneg])
        omega
      · have := hN2.2 (by unfold signB; rw [if_neg hneg]; intro e; injection e with e; injection e with e; injection e with e _; cases e)
        omega)
    clear hN
    by_cases hv : isLv N
    · have hdv : decide (isLv N) = true := decide_eq_true hv
      obtain ⟨v1, v2⟩ := hv
      have HP := Lib.hid (show ∀ W : World, Calls Tryz.prog 49 #[.int .i64 N] W fun e w' => e = .returned (.agg #[.string (signB N), .int .i64 ((N.natAbs / 100 : Nat) : Int), .int .i64 ((N.natAbs % 100 : Nat) : Int)]) ∧ Below W.heap.size W w' from fun W => parts_impl N W v1 v2)
      by_cases heq : signB N = SGN ∧ ((N.natAbs / 100 : Nat) : Int) = m ∧ ((N.natAbs % 100 : Nat) : Int) = cc
      · obtain ⟨q1, q2, q3⟩ := heq
        have hr : res = some N := (HR.out N).2 ⟨⟨v1, v2⟩, lv_back HK.out (by rw [q1]; exact HSG.out) q2.symm (by rw [← HCC.out]; exact q3.symm)⟩
        subst hr
        rw [q1, q2, q3] at HP
        clear q1 q2 q3
        go_wp2_with fail
        go_region_held3 (fun w' => w'.cell? ⟨w1.heap.size, 0, none⟩ = some (.string SGN) ∧ w'.cell? ⟨w1.heap.size, 1, none⟩ = some (.int .i64 m) ∧ w'.cell? ⟨w1.heap.size, 2, none⟩ = some (.int .i64 cc)) (go_keep) (first | (go_at_call 24; refine (vlev_t _ _).mono ?_; rintro e w' ⟨rfl, rfl⟩; rw [hdv]) | (go_at_call 49; refine (HP.out _).mono ?_; rintro e w3 ⟨rfl, b3⟩; have y0 := (b3.cell (p := ⟨w1.heap.size, 0, none⟩) s2).trans z0; have y1 := (b3.cell (p := ⟨w1.heap.size, 1, none⟩) s2).trans z1; have y2 := (b3.cell (p := ⟨w1.heap.size, 2, none⟩) s2).trans z2))
        all_goals (
          go_wp2
          go_ret2
          exact ⟨rfl, let g := b3.mono d1.size; let h := d1.trans (show Below w.heap.size w2 w3 from ⟨g.os, g.tape, g.output, g.size, g.block⟩); ⟨h.os, h.tape, h.output, h.size, h.block⟩⟩)
      · have hn : res = none := by
          cases hr : res with
          | none => rfl
          | some n =>
            have e := HN.out n hr
            obtain ⟨e1, e2, e3, _⟩ := HU.out n hr
            rw [e] at heq
            exact absurd ⟨e1.symm, e2.symm, e3.symm⟩ heq
        subst hn
        obtain ⟨P0, hP0⟩ : ∃ P0, P0 = signB N := ⟨_, rfl⟩
        obtain ⟨P1, hP1⟩ : ∃ P1 : Int, P1 = ((N.natAbs / 100 : Nat) : Int) := ⟨_, rfl⟩
        obtain ⟨P2, hP2⟩ : ∃ P2 : Int, P2 = ((N.natAbs % 100 : Nat) : Int) := ⟨_, rfl⟩
        rw [← hP0, ← hP1, ← hP2] at HP heq
        clear hP0 hP1 hP2 HU HN HK HCC HSG
        by_cases g0 : P0 = SGN
        · rw [g0] at HP heq
          by_cases g1 : P1 = m
          · rw [g1] at HP heq
            have g2 : ¬ P2 = cc := fun e => heq ⟨rfl, rfl, e⟩
            clear heq
            go_wp2_with fail
            go_region_held3 (fun w' => w'.cell? ⟨w1.heap.size, 0, none⟩ = some (.string SGN) ∧ w'.cell? ⟨w1.heap.size, 1, none⟩ = some (.int .i64 m) ∧ w'.cell? ⟨w1.heap.size, 2, none⟩ = some (.int .i64 cc)) (go_keep) (first | (go_at_call 24; refine (vlev_t _ _).mono ?_; rintro e w' ⟨rfl, rfl⟩; rw [hdv]) | (go_at_call 49; refine (HP.out _).mono ?_; rintro e w3 ⟨rfl, b3⟩; have y0 := (b3.cell (p := ⟨w1.heap.size, 0, none⟩) s2).trans z0; have y1 := (b3.cell (p := ⟨w1.heap.size, 1, none⟩) s2).trans z1; have y2 := (b3.cell (p := ⟨w1.heap.size, 2, none⟩) s2).trans z2))
            all_goals (
              go_wp2
              go_ret2
              exact ⟨rfl, let g := b3.mono d1.size; let h := d1.trans (show Below w.heap.size w2 w3 from ⟨g.os, g.tape, g.output, g.size, g.block⟩); ⟨h.os, h.tape, h.output, h.size, h.block⟩⟩)
          · clear heq
            go_wp2_with fail
            go_region_held3 (fun w' => w'.cell? ⟨w1.heap.size, 0, none⟩ = some (.string SGN) ∧ w'.cell? ⟨w1.heap.size, 1, none⟩ = some (.int .i64 m) ∧ w'.cell? ⟨w1.heap.size, 2, none⟩ = some (.int .i64 cc)) (go_keep) (first | (go_at_call 24; refine (vlev_t _ _).mono ?_; rintro e w' ⟨rfl, rfl⟩; rw [hdv]) | (go_at_call 49; refine (HP.out _).mono ?_; rintro e w3 ⟨rfl, b3⟩; have y0 := (b3.cell (p := ⟨w1.heap.size, 0, none⟩) s2).trans z0; have y1 := (b3.cell (p := ⟨w1.heap.size, 1, none⟩) s2).trans z1; have y2 := (b3.cell (p := ⟨w1.heap.size, 2, none⟩) s2).trans z2))
            all_goals (
              go_wp2
              go_ret2
              exact ⟨rfl, let g := b3.mono d1.size; let h := d1.trans (show Below w.heap.size w2 w3 from ⟨g.os, g.tape, g.output, g.size, g.block⟩); ⟨h.os, h.tape, h.output, h.size, h.block⟩⟩)
        · have gf := strF g0
          clear heq
          go_wp2_with fail
          go_region_held3 (fun w' => w'.cell? ⟨w1.heap.size, 0, none⟩ = some (.string SGN) ∧ w'.cell? ⟨w1.heap.size, 1, none⟩ = some (.int .i64 m) ∧ w'.cell? ⟨w1.heap.size, 2, none⟩ = some (.int .i64 cc)) (go_keep) (first | (go_at_call 24; refine (vlev_t _ _).mono ?_; rintro e w' ⟨rfl, rfl⟩; rw [hdv]) | (go_at_call 49; refine (HP.out _).mono ?_; rintro e w3 ⟨rfl, b3⟩; have y0 := (b3.cell (p := ⟨w1.heap.size, 0, none⟩) s2).trans z0; have y1 := (b3.cell (p := ⟨w1.heap.size, 1, none⟩) s2).trans z1; have y2 := (b3.cell (p := ⟨w1.heap.size, 2, none⟩) s2).trans z2))
          all_goals (
            go_wp2
            go_ret2
            exact ⟨rfl, let g := b3.mono d1.size; let h := d1.trans (show Below w.heap.size w2 w3 from ⟨g.os, g.tape, g.output, g.size, g.block⟩); ⟨h.os, h.tape, h.output, h.size, h.block⟩⟩)
    · have hn : res = none := by
        cases hr : res with
        | none => rfl
        | some n =>
          have e := HN.out n hr
          rw [e] at hv
          exact absurd (HU.out n hr).2.2.2 hv
      have hdv : decide (isLv N) = false := decide_eq_false hv
      subst hn
      clear hv HU HN
      go_wp2_with fail
      first | (go_region_with (go_at_call 24; refine (vlev_t _ _).mono ?_; rintro e w' ⟨rfl, rfl⟩; rw [hdv])) | fail
      all_goals (
        go_wp2
        go_ret2
        exact ⟨rfl, ⟨d1.os, d1.tape, d1.output, d1.size, d1.block⟩⟩)

end Go.Proofs.YtkbbflleonkjfaaGreatDoor
