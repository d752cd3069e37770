/- Breaches: the hours until a breach is closed: of the model. -/
import Derived.Test.YtckhfkgldemcnaaDoorBreM
namespace Go.Proofs.YtckhfkgldemcnaaDoor
open Go.RowKit

/-- the first hour after which a breach is closed -/
def cloF (ls vs : List Int) (a b c : Int) (ys : List Int) (s : Int) : Nat := fstN (fun k => decide ((itB ls vs a b c ys (fun _ => s) k).a = 0)) (ys.length + 1)
def cloH (ls vs : List Int) (a b c : Int) (ys : List Int) (s : Int) : Int := if cloF ls vs a b c ys s ≤ ys.length then (cloF ls vs a b c ys s : Int) else -1
def cloZ (ls vs : List Int) (a b c : Int) (ys : List Int) (s : Int) : Int := if cloF ls vs a b c ys s ≤ ys.length then (itB ls vs a b c ys (fun _ => s) (cloF ls vs a b c ys s)).z else 0
theorem clo_yes {ls vs : List Int} {a b c : Int} {ys : List Int} {s : Int} {k : Nat} (hk : k ≤ ys.length) (h : ∀ j, j < k → (itB ls vs a b c ys (fun _ => s) j).a ≠ 0) (hp : (itB ls vs a b c ys (fun _ => s) k).a = 0) : cloF ls vs a b c ys s = k ∧ cloH ls vs a b c ys s = (k : Int) ∧ cloZ ls vs a b c ys s = (itB ls vs a b c ys (fun _ => s) k).z := by
  have e : cloF ls vs a b c ys s = k := f_at hk (fun j hj => decide_eq_false (h j hj)) (decide_eq_true hp)
  unfold cloH cloZ
  rw [e, if_pos hk, if_pos hk]
  exact ⟨rfl, rfl, rfl⟩
theorem clo_no {ls vs : List Int} {a b c : Int} {ys : List Int} {s : Int} (h : ∀ j, j ≤ ys.length → (itB ls vs a b c ys (fun _ => s) j).a ≠ 0) : cloF ls vs a b c ys s = ys.length + 1 ∧ cloH ls vs a b c ys s = -1 ∧ cloZ ls vs a b c ys s = 0 := by
  have e : cloF ls vs a b c ys s = ys.length + 1 := f_no (fun j hj => decide_eq_false (h j hj))
  unfold cloH cloZ
  rw [e, if_neg (by omega), if_neg (by omega)]
  exact ⟨rfl, rfl, rfl⟩
theorem MB.other {w W : World} {lo q r : Nat} {A0 : Option Addr} {n0 k0 : Nat} {A1 : Option Addr} {n1 k1 : Nat} {a b c : Int} (m : MB w W lo q r A0 n0 k0 A1 n1 k1 a b c) {g j : Nat} (hr : g ≠ r) (hq : g ≠ q) (hl : lo ≤ g) (v : Value) : MB w (W.setCell ⟨g, j, none⟩ v) lo q r A0 n0 k0 A1 n1 k1 a b c := by
  obtain ⟨D, lq, lr, nq, lor, ⟨y0, y1⟩, ⟨x0, x1, x2⟩, f0, f1, f2⟩ := m
  have n : ∀ (b o : Nat), g ≠ b → (⟨g, j, none⟩ : Addr) ≠ ⟨b, o, none⟩ := fun b o h e => h (by injection e)
  exact ⟨D.setCell (p := ⟨g, j, none⟩) hl _, by simpa [World.setCell] using lq, by simpa [World.setCell] using lr, nq, lor, ⟨(World.cell?_setCell_other _ _ _ _ (n _ _ hq)).trans y0, (World.cell?_setCell_other _ _ _ _ (n _ _ hq)).trans y1⟩, ⟨(World.cell?_setCell_other _ _ _ _ (n _ _ hr)).trans x0, (World.cell?_setCell_other _ _ _ _ (n _ _ hr)).trans x1, (World.cell?_setCell_other _ _ _ _ (n _ _ hr)).trans x2⟩, by simpa using f0, by simpa using f1, by simpa using f2⟩

set_option maxRecDepth 100000 in
set_option maxHeartbeats 6400000 in
theorem l12Close_t (q : Nat) (A0 : Option Addr) (n0 k0 : Nat) (ls : List Int) (A1 : Option Addr) (n1 k1 : Nat) (vs : List Int) (a b c : Int) (O : Option Addr) (no ko : Nat) (ys : List Int) (s : Int) (w : World) (hq : q < w.heap.size) (hat : CurveAt w q A0 n0 k0 A1 n1 k1) (hn0 : n0 ≤ 1048576) (hn1 : n1 ≤ 1048576) (ra : Rd w w.heap.size A0 n0 ls) (rb : Rd w w.heap.size A1 n1 vs) (ro : Rd w w.heap.size O no ys) (hbr : brOk ls vs a b c) (hst : stepsOk ys) (hs : stoOk s) (H Z : Int) (hH : H = cloH ls vs a b c ys s) (hZ : Z = cloZ ls vs a b c ys s) :
    Calls Tryd.prog 66 #[.pointer (some ⟨q, 0, none⟩), .agg #[.int .i64 a, .int .i64 b, .int .i64 c], .slice O no ko, .int .i64 s] w fun e w' => e = .returned (.tuple #[.int .i64 H, .int .i64 Z]) ∧ Below w.heap.size w w' := by
  have RA := Lib.hid ra
  have RB := Lib.hid rb
  have RO := Lib.hid ro
  have hl := ro.1
  have h100 := hst.2
  have HH := Lib.hid (hrs_ok hst hs)
  have HST := Lib.hid hst
  have HSS := Lib.hid hs
  have HBR := Lib.hid hbr
  have YES := Lib.hid (show ∀ k, k ≤ ys.length → (∀ j, j < k → (itB ls vs a b c ys (fun _ => s) j).a ≠ 0) → (itB ls vs a b c ys (fun _ => s) k).a = 0 → H = (k : Int) ∧ Z = (itB ls vs a b c ys (fun _ => s) k).z from fun k hk hj hp => by
    rw [hH, hZ]; exact (clo_yes hk hj hp).2)
  have NO := Lib.hid (show (∀ j, j ≤ ys.length → (itB ls vs a b c ys (fun _ => s) j).a ≠ 0) → H = -1 ∧ Z = 0 from fun hj => by
    rw [hH, hZ]; exact (clo_no hj).2)
  obtain ⟨y0, y1⟩ := hat
  have MB0 := Lib.hid (show MB w (w.alloc (.cells #[.int .i64 a, .int .i64 b, .int .i64 c] 32)) w.heap.size q w.heap.size A0 n0 k0 A1 n1 k1 a b c from ⟨(by repeat (first | assumption | exact Below.refl _ _ | (refine Below.setCell ?_ (by first | omega | (simp; done) | (simp; omega)) _) | apply below_drewN | apply Below.drew | (refine Below.alloc ?_ (by first | omega | (simp; done) | (simp; omega)) _))), (by first | omega | (simp; done) | (simp; omega)), (by first | omega | (simp; done) | (simp; omega)), by omega, by omega, ⟨by first | (simp; done) | go_simp, by first | (simp; done) | go_simp⟩, ⟨by simp, by simp, by simp⟩, by simp, by simp, by simp⟩)
  clear ra rb ro hst hs hbr hH hZ y0 y1
  go_enter Tryd.func66, Tryd.ntmps66
  go_wp2
  go_loopw [10, 11] (fun zz i wr => ∃ k : Nat, k ≤ no ∧ zz = .int .i64 (itB ls vs a b c ys (fun _ => s) k).z ∧ i = .int .i64 (k : Int) ∧ Hid (MB w wr w.heap.size q w.heap.size A0 n0 k0 A1 n1 k1 (itB ls vs a b c ys (fun _ => s) k).a b (itB ls vs a b c ys (fun _ => s) k).c) ∧ Hid (∀ j, j < k → (itB ls vs a b c ys (fun _ => s) j).a ≠ 0)) (fun _ i _ => no - (intOf i).toNat)
  case atStart => exact ⟨0, by omega, rfl, rfl, MB0, fun j hj => absurd hj (by omega)⟩
  case round =>
    obtain ⟨k, hk, rfl, rfl, hmb, hno⟩ := hrel
    obtain ⟨b1, zb1, zb2⟩ := itB_ok HBR.out HH.out k (by omega)
    obtain ⟨av, hav⟩ : ∃ v, v = (itB ls vs a b c ys (fun _ => s) k).a := ⟨_, rfl⟩
    obtain ⟨cv, hcv⟩ : ∃ v, v = (itB ls vs a b c ys (fun _ => s) k).c := ⟨_, rfl⟩
    obtain ⟨zv, hzv⟩ : ∃ v, v = (itB ls vs a b c ys (fun _ => s) k).z := ⟨_, rfl⟩
    have HAV := Lib.hid hav
    have HCV := Lib.hid hcv
    have HZV := Lib.hid hzv
    rw [← hav, ← hcv] at hmb b1
    rw [← hzv] at zb1 zb2 ⊢
    have BK := Lib.hid b1
    have hav0 := b1.2.1.1.1
    clear b1 hav hcv hzv
    obtain ⟨dm, lq, lr, nq, lor, ⟨y0, y1⟩, ⟨x0, x1, x2⟩, f0, f1, f2⟩ := hmb.out
    by_cases h0 : av = 0
    · have ER := Lib.hid (YES.out k (by omega) hno.out (by rw [← HAV.out]; exact h0))
      rw [← HZV.out] at ER
      subst h0
      have D2 := Lib.hid dm
      clear dm
      go_wp2
      go_ret2
      exact ⟨ret_pair ER.out.1.symm ER.out.2.symm, D2.out⟩
    · have i0 : (av == 0) = false := by simpa using h0
      have HNZ := Lib.hid (show (itB ls vs a b c ys (fun _ => s) k).a ≠ 0 by rw [← HAV.out]; exact h0)
      by_cases he : k = no
      · have ER := Lib.hid (NO.out (fun j hj => by
          by_cases ej : j = k
          · subst ej; exact HNZ.out
          · exact hno.out j (by omega)))
        have D2 := Lib.hid dm
        clear dm
        subst he
        go_wp2
        go_ret2
        exact ⟨ret_pair ER.out.1.symm ER.out.2.symm, D2.out⟩
      · have i1 : ((k : Int) == (no : Int)) = false := by simp; omega
        have i2 : (k : Int) < (no : Int) := by omega
        have i3 : k < no := by omega
        obtain ⟨ob, oo, rfl, hob, hoc⟩ := (RO.out.below dm).2 (by omega)
        have yo := hoc k i3
        obtain ⟨yv, hyv⟩ : ∃ y, y = ys.getD k 0 := ⟨_, rfl⟩
        rw [← hyv] at yo
        have HY := Lib.hid (show levOk yv by rw [hyv]; exact HST.out.1 k (by omega))
        have HYV := Lib.hid hyv
        obtain ⟨a2v, ha2v⟩ : ∃ v, v = stW av (headN ls vs b cv yv) s := ⟨_, rfl⟩
        obtain ⟨c2v, hc2v⟩ : ∃ v, v = cv + inflN ls vs av b cv yv := ⟨_, rfl⟩
        obtain ⟨z2v, hz2v⟩ : ∃ v, v = cloN av (headN ls vs b cv yv) s := ⟨_, rfl⟩
        have hdm := dm.size
        have zb := cloN_bd BK.out HY.out HSS.out
        rw [← hz2v] at zb
        have hs2 := HSS.out.2
        have wz := IntWalk.i64_in (zv + z2v) (by omega)
        have E1 := Lib.hid ha2v
        have E2 := Lib.hid hc2v
        have E3 := Lib.hid hz2v
        clear hyv hoc ha2v hc2v hz2v
        go_wp2_with fail
        refine wp_region_held_drew (S := fun w' => w'.cell? ⟨w.heap.size, 0, none⟩ = some (.int .i64 av) ∧ w'.cell? ⟨w.heap.size, 1, none⟩ = some (.int .i64 b) ∧ w'.cell? ⟨w.heap.size, 2, none⟩ = some (.int .i64 cv) ∧ w'.cell? ⟨q, 0, none⟩ = some (.slice A0 n0 k0) ∧ w'.cell? ⟨q, 1, none⟩ = some (.slice A1 n1 k1) ∧ w'.cell? ⟨ob, oo + k, none⟩ = some (.int .i64 yv)) (by kernel_rfl) ⟨x0, x1, x2, y0, y1, yo⟩ (fun hHeld => ?_)
        ((refine wpAnyH_take (i := 0) (oi := ⟨some 26, _, _, _, _, _⟩) (v := ?_) rfl (by kernel_rfl) (by kernel_rfl) (by kernel_rfl) (fun _ _ _ h => h) (Or.inl ⟨by rfl, ?_⟩) (by assumption) ?_; rotate_left 1; (focus (intro w hSw; (try dsimp only at hSw); go_simp <;> try (first | (with_reducible rfl) | (rw [if_neg (by omega)]) | (rw [if_pos (by omega)])))); try simp only [Act.put, List.setIfInBounds_toArray, List.set_cons_zero, List.set_cons_succ]); (refine wpAnyH_take (i := 1) (oi := ⟨some 27, _, _, _, _, _⟩) (v := ?_) rfl (by kernel_rfl) (by kernel_rfl) (by kernel_rfl) (fun _ _ _ h => h) (Or.inl ⟨by rfl, ?_⟩) (by assumption) ?_; rotate_left 1; (focus (intro w hSw; (try dsimp only at hSw); go_simp <;> try (first | (with_reducible rfl) | (rw [if_neg (by omega)]) | (rw [if_pos (by omega)])))); try simp only [Act.put, List.setIfInBounds_toArray, List.set_cons_zero, List.set_cons_succ]); (refine wpAnyH_take (i := 2) (oi := ⟨some 28, _, _, _, _, _⟩) (v := ?_) rfl (by kernel_rfl) (by kernel_rfl) (by kernel_rfl) (fun _ _ _ h => h) (Or.inl ⟨by rfl, ?_⟩) (by assumption) ?_; rotate_left 1; (focus (intro w hSw; (try dsimp only at hSw); go_simp <;> try (first | (with_reducible rfl) | (rw [if_neg (by omega)]) | (rw [if_pos (by omega)])))); try simp only [Act.put, List.setIfInBounds_toArray, List.set_cons_zero, List.set_cons_succ]); (refine wpAnyH_take (i := 3) (oi := ⟨some 29, _, _, _, _, _⟩) (v := ?_) rfl (by kernel_rfl) (by kernel_rfl) (by kernel_rfl) (fun _ _ _ h => h) (Or.inl ⟨by rfl, ?_⟩) (by assumption) ?_; rotate_left 1; (focus (intro w hSw; (try dsimp only at hSw); go_simp <;> try (first | (with_reducible rfl) | (rw [if_neg (by omega)]) | (rw [if_pos (by omega)])))); try simp only [Act.put, List.setIfInBounds_toArray, List.set_cons_zero, List.set_cons_succ]); (refine wpAnyH_take (i := 4) (oi := ⟨some 30, _, _, _, _, _⟩) (v := ?_) rfl (by kernel_rfl) (by kernel_rfl) (by kernel_rfl) (fun _ _ _ h => h) (Or.inl ⟨by rfl, ?_⟩) (by assumption) ?_; rotate_left 1; (focus (intro w hSw; (try dsimp only at hSw); go_simp <;> try (first | (with_reducible rfl) | (rw [if_neg (by omega)]) | (rw [if_pos (by omega)])))); try simp only [Act.put, List.setIfInBounds_toArray, List.set_cons_zero, List.set_cons_succ]); (refine wpAnyH_take (i := 5) (oi := ⟨some 31, _, _, _, _, _⟩) (v := ?_) rfl (by kernel_rfl) (by kernel_rfl) (by kernel_rfl) (fun _ _ _ h => h) (Or.inl ⟨by rfl, ?_⟩) (by assumption) ?_; rotate_left 1; (focus (intro w hSw; (try dsimp only at hSw); go_simp <;> try (first | (with_reducible rfl) | (rw [if_neg (by omega)]) | (rw [if_pos (by omega)])))); try simp only [Act.put, List.setIfInBounds_toArray, List.set_cons_zero, List.set_cons_succ]); (refine wpAnyH_take (i := 6) (oi := ⟨some 32, _, _, _, _, _⟩) (v := ?_) rfl (by kernel_rfl) (by kernel_rfl) (by kernel_rfl) (fun _ _ _ h => h) (Or.inl ⟨by rfl, ?_⟩) (by assumption) ?_; rotate_left 1; (focus (intro w hSw; (try dsimp only at hSw); go_simp <;> try (first | (with_reducible rfl) | (rw [if_neg (by omega)]) | (rw [if_pos (by omega)])))); try simp only [Act.put, List.setIfInBounds_toArray, List.set_cons_zero, List.set_cons_succ]))
        refine wpAnyH_ready (rs := [7, 11]) (by kernel_rfl) (by simp) ?_
        refine AllReadyH.cons (o := ⟨some 33, _, _, _, _, _⟩) rfl (fun K hK => ?_) (AllReadyH.cons (o := ⟨some 12, _, _, _, _, _⟩) rfl (fun K hK => ?_) AllReadyH.nil)
        · go_simp
          have M1 := Lib.hid (show MB w (wr.drew) w.heap.size q w.heap.size A0 n0 k0 A1 n1 k1 av b cv from hmb.out.below ⟨rfl, rfl, rfl, Nat.le_refl _, fun _ _ => rfl⟩ (by omega))
          obtain ⟨d1, lq1, lr1, _, _, ⟨y01, y11⟩, _, _⟩ := M1.out
          refine (stepS_t q A0 n0 k0 ls A1 n1 k1 vs av b cv yv s _ lq1 ⟨y01, y11⟩ hn0 hn1 ((RA.out.below d1).mono d1.size) ((RB.out.below d1).mono d1.size) BK.out HY.out HSS.out a2v c2v z2v E1.out E2.out E3.out).mono ?_
          rintro e2v V3 ⟨rfl, B3⟩
          have M3 := Lib.hid (M1.out.below B3 d1.size)
          have yo3 := (B3.cell (p := ⟨ob, oo + k, none⟩) (by first | omega | (simp; done) | (simp; omega))).trans hHeld.2.2.2.2.2
          obtain ⟨d3, lq3, lr3, _, _, ⟨u0, u1⟩, ⟨v0, v1, v2⟩, _⟩ := M3.out
          have hd3 := d3.size
          clear hHeld
          (refine hK.out _ _ ?_ (fun hHeld => ?_))
          · exact ⟨v0, v1, v2, u0, u1, yo3⟩
          clear hK K
          ((refine wpAnyH_take (i := 8) (oi := ⟨some 25, _, _, _, _, _⟩) (v := ?_) rfl (by kernel_rfl) (by kernel_rfl) (by kernel_rfl) (fun _ _ _ h => h) (Or.inl ⟨by rfl, ?_⟩) (by assumption) ?_; rotate_left 1; (focus (intro w hSw; (try dsimp only at hSw); go_simp <;> try (first | (with_reducible rfl) | (rw [if_neg (by omega)]) | (rw [if_pos (by omega)])))); try simp only [Act.put, List.setIfInBounds_toArray, List.set_cons_zero, List.set_cons_succ]); (refine wpAnyH_take (i := 9) (oi := ⟨some 34, _, _, _, _, _⟩) (v := ?_) rfl (by kernel_rfl) (by kernel_rfl) (by kernel_rfl) (fun _ _ _ h => h) (Or.inl ⟨by rfl, ?_⟩) (by assumption) ?_; rotate_left 1; (focus (intro w hSw; (try dsimp only at hSw); go_simp <;> try (first | (with_reducible rfl) | (rw [if_neg (by omega)]) | (rw [if_pos (by omega)])))); try simp only [Act.put, List.setIfInBounds_toArray, List.set_cons_zero, List.set_cons_succ]); (refine wpAnyH_take (i := 10) (oi := ⟨some 35, _, _, _, _, _⟩) (v := ?_) rfl (by kernel_rfl) (by kernel_rfl) (by kernel_rfl) (fun _ _ _ h => h) (Or.inl ⟨by rfl, ?_⟩) (by assumption) ?_; rotate_left 1; (focus (intro w hSw; (try dsimp only at hSw); go_simp <;> try (first | (with_reducible rfl) | (rw [if_neg (by omega)]) | (rw [if_pos (by omega)])))); try simp only [Act.put, List.setIfInBounds_toArray, List.set_cons_zero, List.set_cons_succ]))
          refine wpAnyH_ready (rs := [11]) (by kernel_rfl) (by simp) ?_
          refine AllReadyH.cons (o := ⟨some 12, _, _, _, _, _⟩) rfl (fun K hK => ?_) AllReadyH.nil
          go_simp
          have t0 := hHeld.1
          have t1 := hHeld.2.1
          have t2 := hHeld.2.2.1
          have t3 := hHeld.2.2.2.1
          have t4 := hHeld.2.2.2.2.1
          have t5 := hHeld.2.2.2.2.2
          clear hHeld
          (refine hK.out _ _ ?_ (fun hHeld => ?_))
          · exact ⟨((Below.alloc (Below.refl _ _) (Nat.le_refl _) _ : Below _ _ _).cell (p := ⟨w.heap.size, 0, none⟩) (by first | exact lr | exact lq | exact lr3 | exact lq3 | exact (show ob < wr.heap.size by omega) | exact (show ob < V3.heap.size by omega) | omega)).trans t0, ((Below.alloc (Below.refl _ _) (Nat.le_refl _) _ : Below _ _ _).cell (p := ⟨w.heap.size, 1, none⟩) (by first | exact lr | exact lq | exact lr3 | exact lq3 | exact (show ob < wr.heap.size by omega) | exact (show ob < V3.heap.size by omega) | omega)).trans t1, ((Below.alloc (Below.refl _ _) (Nat.le_refl _) _ : Below _ _ _).cell (p := ⟨w.heap.size, 2, none⟩) (by first | exact lr | exact lq | exact lr3 | exact lq3 | exact (show ob < wr.heap.size by omega) | exact (show ob < V3.heap.size by omega) | omega)).trans t2, ((Below.alloc (Below.refl _ _) (Nat.le_refl _) _ : Below _ _ _).cell (p := ⟨q, 0, none⟩) (by first | exact lr | exact lq | exact lr3 | exact lq3 | exact (show ob < wr.heap.size by omega) | exact (show ob < V3.heap.size by omega) | omega)).trans t3, ((Below.alloc (Below.refl _ _) (Nat.le_refl _) _ : Below _ _ _).cell (p := ⟨q, 1, none⟩) (by first | exact lr | exact lq | exact lr3 | exact lq3 | exact (show ob < wr.heap.size by omega) | exact (show ob < V3.heap.size by omega) | omega)).trans t4, ((Below.alloc (Below.refl _ _) (Nat.le_refl _) _ : Below _ _ _).cell (p := ⟨ob, oo + k, none⟩) (by first | exact lr | exact lq | exact lr3 | exact lq3 | exact (show ob < wr.heap.size by omega) | exact (show ob < V3.heap.size by omega) | omega)).trans t5⟩
          clear hK K
          try simp only [Act.put, List.setIfInBounds_toArray, List.set_cons_zero, List.set_cons_succ]
          refine wpAnyH_ready (rs := [12]) (by kernel_rfl) (by simp) ?_
          refine AllReadyH.cons (o := ⟨none, _, _, _, _, _⟩) rfl (fun K hK => ?_) AllReadyH.nil
          go_simp
          (refine hK.out _ _ ?_ (fun hHeld => ?_))
          · exact ⟨(((Below.alloc (Below.refl _ _) (Nat.le_refl _) _ : Below _ _ _).cell (p := ⟨w.heap.size, 0, none⟩) (by first | exact lr3 | exact lq3 | exact (show ob < V3.heap.size by omega))).trans v0), (((Below.alloc (Below.refl _ _) (Nat.le_refl _) _ : Below _ _ _).cell (p := ⟨w.heap.size, 1, none⟩) (by first | exact lr3 | exact lq3 | exact (show ob < V3.heap.size by omega))).trans v1), (((Below.alloc (Below.refl _ _) (Nat.le_refl _) _ : Below _ _ _).cell (p := ⟨w.heap.size, 2, none⟩) (by first | exact lr3 | exact lq3 | exact (show ob < V3.heap.size by omega))).trans v2), (((Below.alloc (Below.refl _ _) (Nat.le_refl _) _ : Below _ _ _).cell (p := ⟨q, 0, none⟩) (by first | exact lr3 | exact lq3 | exact (show ob < V3.heap.size by omega))).trans u0), (((Below.alloc (Below.refl _ _) (Nat.le_refl _) _ : Below _ _ _).cell (p := ⟨q, 1, none⟩) (by first | exact lr3 | exact lq3 | exact (show ob < V3.heap.size by omega))).trans u1), (((Below.alloc (Below.refl _ _) (Nat.le_refl _) _ : Below _ _ _).cell (p := ⟨ob, oo + k, none⟩) (by first | exact lr3 | exact lq3 | exact (show ob < V3.heap.size by omega))).trans yo3)⟩
          clear hK K
          ((refine wpAnyH_take (i := 13) (oi := ⟨some 13, _, _, _, _, _⟩) (v := ?_) rfl (by kernel_rfl) (by kernel_rfl) (by kernel_rfl) (fun _ _ _ h => h) (Or.inl ⟨by rfl, ?_⟩) (by assumption) ?_; rotate_left 1; (focus (intro w hSw; (try dsimp only at hSw); go_simp <;> try (first | (with_reducible rfl) | (rw [if_neg (by omega)]) | (rw [if_pos (by omega)])))); try simp only [Act.put, List.setIfInBounds_toArray, List.set_cons_zero, List.set_cons_succ]))
          refine wpAnyH_done (by kernel_rfl) ?_ _
          have M4 := Lib.hid (M3.out.below (Below.alloc (Below.refl _ _) (Nat.le_refl _) (.cells #[.int .i64 a2v, .int .i64 b, .int .i64 c2v] 32)) (by have := d3.size; omega))
          have GC : (V3.alloc (.cells #[.int .i64 a2v, .int .i64 b, .int .i64 c2v] 32)).cell? ⟨V3.heap.size, 0, none⟩ = some (.int .i64 a2v) ∧ (V3.alloc (.cells #[.int .i64 a2v, .int .i64 b, .int .i64 c2v] 32)).cell? ⟨V3.heap.size, 1, none⟩ = some (.int .i64 b) ∧ (V3.alloc (.cells #[.int .i64 a2v, .int .i64 b, .int .i64 c2v] 32)).cell? ⟨V3.heap.size, 2, none⟩ = some (.int .i64 c2v) := ⟨by simp, by simp, by simp⟩
          generalize V3.alloc (.cells #[.int .i64 a2v, .int .i64 b, .int .i64 c2v] 32) = X4 at M4 GC ⊢
          obtain ⟨p0, p1, p2⟩ := GC
          clear y0 y1 x0 x1 x2 f0 f1 f2 yo hHeld M3 M1 yo3 u0 u1 v0 v1 v2
          obtain ⟨_, _, _, _, _, ⟨c0, c1⟩, ⟨r0, r1, r2⟩, r3, r4, r5⟩ := M4.out
          go_wp2
          go_roundw
          case rel =>
            have ea : (itB ls vs a b c ys (fun _ => s) (k + 1)).a = a2v := by rw [E1.out, HYV.out, HAV.out, HCV.out]; rfl
            have ec : (itB ls vs a b c ys (fun _ => s) (k + 1)).c = c2v := by rw [E2.out, HYV.out, HAV.out, HCV.out]; rfl
            have ez : (itB ls vs a b c ys (fun _ => s) (k + 1)).z = zv + z2v := by rw [E3.out, HYV.out, HAV.out, HCV.out, HZV.out]; rfl
            exact ⟨k + 1, by omega, by rw [ez], by go_num, (by rw [ea, ec]; exact M4.out.set a2v b c2v), fun j hj => by
              by_cases ej : j = k
              · subst ej; exact HNZ.out
              · exact hno.out j (by omega)⟩
          case measure => simp [intOf]; omega
        · go_simp
          have t0 := hHeld.1
          have t1 := hHeld.2.1
          have t2 := hHeld.2.2.1
          have t3 := hHeld.2.2.2.1
          have t4 := hHeld.2.2.2.2.1
          have t5 := hHeld.2.2.2.2.2
          clear hHeld
          (refine hK.out _ _ ?_ (fun hHeld => ?_))
          · exact ⟨((Below.alloc (Below.refl _ _) (Nat.le_refl _) _ : Below _ _ _).cell (p := ⟨w.heap.size, 0, none⟩) (by first | exact lr | exact lq | exact lr3 | exact lq3 | exact (show ob < wr.heap.size by omega) | exact (show ob < V3.heap.size by omega) | omega)).trans t0, ((Below.alloc (Below.refl _ _) (Nat.le_refl _) _ : Below _ _ _).cell (p := ⟨w.heap.size, 1, none⟩) (by first | exact lr | exact lq | exact lr3 | exact lq3 | exact (show ob < wr.heap.size by omega) | exact (show ob < V3.heap.size by omega) | omega)).trans t1, ((Below.alloc (Below.refl _ _) (Nat.le_refl _) _ : Below _ _ _).cell (p := ⟨w.heap.size, 2, none⟩) (by first | exact lr | exact lq | exact lr3 | exact lq3 | exact (show ob < wr.heap.size by omega) | exact (show ob < V3.heap.size by omega) | omega)).trans t2, ((Below.alloc (Below.refl _ _) (Nat.le_refl _) _ : Below _ _ _).cell (p := ⟨q, 0, none⟩) (by first | exact lr | exact lq | exact lr3 | exact lq3 | exact (show ob < wr.heap.size by omega) | exact (show ob < V3.heap.size by omega) | omega)).trans t3, ((Below.alloc (Below.refl _ _) (Nat.le_refl _) _ : Below _ _ _).cell (p := ⟨q, 1, none⟩) (by first | exact lr | exact lq | exact lr3 | exact lq3 | exact (show ob < wr.heap.size by omega) | exact (show ob < V3.heap.size by omega) | omega)).trans t4, ((Below.alloc (Below.refl _ _) (Nat.le_refl _) _ : Below _ _ _).cell (p := ⟨ob, oo + k, none⟩) (by first | exact lr | exact lq | exact lr3 | exact lq3 | exact (show ob < wr.heap.size by omega) | exact (show ob < V3.heap.size by omega) | omega)).trans t5⟩
          clear hK K
          try simp only [Act.put, List.setIfInBounds_toArray, List.set_cons_zero, List.set_cons_succ]
          refine wpAnyH_ready (rs := [7]) (by kernel_rfl) (by simp) ?_
          refine AllReadyH.cons (o := ⟨some 33, _, _, _, _, _⟩) rfl (fun K hK => ?_) AllReadyH.nil
          go_simp
          have M1 := Lib.hid (show MB w ((wr.alloc (.cells #[.int .i64 0, .int .i64 0, .int .i64 0] 32)).drew) w.heap.size q w.heap.size A0 n0 k0 A1 n1 k1 av b cv from hmb.out.below (Below.drew (Below.alloc (Below.refl _ _) (Nat.le_refl _) _)) (by omega))
          obtain ⟨d1, lq1, lr1, _, _, ⟨y01, y11⟩, _, _⟩ := M1.out
          refine (stepS_t q A0 n0 k0 ls A1 n1 k1 vs av b cv yv s _ lq1 ⟨y01, y11⟩ hn0 hn1 ((RA.out.below d1).mono d1.size) ((RB.out.below d1).mono d1.size) BK.out HY.out HSS.out a2v c2v z2v E1.out E2.out E3.out).mono ?_
          rintro e2v V3 ⟨rfl, B3⟩
          have M3 := Lib.hid (M1.out.below B3 d1.size)
          have yo3 := (B3.cell (p := ⟨ob, oo + k, none⟩) (by first | omega | (simp; done) | (simp; omega))).trans hHeld.2.2.2.2.2
          obtain ⟨kz, fz⟩ := bcell B3
          have o0 : V3.cell? ⟨wr.heap.size, 0, none⟩ = some (.int .i64 0) := (by rw [kz _ _ (by first | omega | (simp; done) | (simp; omega))]; first | (simp; done) | go_simp); have of0 : V3.frozen? ⟨wr.heap.size, 0, none⟩ = false := (by rw [fz _ _ (by first | omega | (simp; done) | (simp; omega))]; first | (simp; done) | go_simp); have o1 : V3.cell? ⟨wr.heap.size, 1, none⟩ = some (.int .i64 0) := (by rw [kz _ _ (by first | omega | (simp; done) | (simp; omega))]; first | (simp; done) | go_simp); have of1 : V3.frozen? ⟨wr.heap.size, 1, none⟩ = false := (by rw [fz _ _ (by first | omega | (simp; done) | (simp; omega))]; first | (simp; done) | go_simp); have o2 : V3.cell? ⟨wr.heap.size, 2, none⟩ = some (.int .i64 0) := (by rw [kz _ _ (by first | omega | (simp; done) | (simp; omega))]; first | (simp; done) | go_simp); have of2 : V3.frozen? ⟨wr.heap.size, 2, none⟩ = false := (by rw [fz _ _ (by first | omega | (simp; done) | (simp; omega))]; first | (simp; done) | go_simp)
          have gV : wr.heap.size < V3.heap.size := (by have := B3.size; (try simp at this); omega)
          obtain ⟨d3, lq3, lr3, _, _, ⟨u0, u1⟩, ⟨v0, v1, v2⟩, _⟩ := M3.out
          have hd3 := d3.size
          clear hHeld
          (refine hK.out _ _ ?_ (fun hHeld => ?_))
          · exact ⟨v0, v1, v2, u0, u1, yo3⟩
          clear hK K
          ((refine wpAnyH_take (i := 8) (oi := ⟨some 25, _, _, _, _, _⟩) (v := ?_) rfl (by kernel_rfl) (by kernel_rfl) (by kernel_rfl) (fun _ _ _ h => h) (Or.inl ⟨by rfl, ?_⟩) (by assumption) ?_; rotate_left 1; (focus (intro w hSw; (try dsimp only at hSw); go_simp <;> try (first | (with_reducible rfl) | (rw [if_neg (by omega)]) | (rw [if_pos (by omega)])))); try simp only [Act.put, List.setIfInBounds_toArray, List.set_cons_zero, List.set_cons_succ]); (refine wpAnyH_take (i := 9) (oi := ⟨some 34, _, _, _, _, _⟩) (v := ?_) rfl (by kernel_rfl) (by kernel_rfl) (by kernel_rfl) (fun _ _ _ h => h) (Or.inl ⟨by rfl, ?_⟩) (by assumption) ?_; rotate_left 1; (focus (intro w hSw; (try dsimp only at hSw); go_simp <;> try (first | (with_reducible rfl) | (rw [if_neg (by omega)]) | (rw [if_pos (by omega)])))); try simp only [Act.put, List.setIfInBounds_toArray, List.set_cons_zero, List.set_cons_succ]); (refine wpAnyH_take (i := 10) (oi := ⟨some 35, _, _, _, _, _⟩) (v := ?_) rfl (by kernel_rfl) (by kernel_rfl) (by kernel_rfl) (fun _ _ _ h => h) (Or.inl ⟨by rfl, ?_⟩) (by assumption) ?_; rotate_left 1; (focus (intro w hSw; (try dsimp only at hSw); go_simp <;> try (first | (with_reducible rfl) | (rw [if_neg (by omega)]) | (rw [if_pos (by omega)])))); try simp only [Act.put, List.setIfInBounds_toArray, List.set_cons_zero, List.set_cons_succ]))
          refine wpAnyH_ready (rs := [12]) (by kernel_rfl) (by simp) ?_
          refine AllReadyH.cons (o := ⟨none, _, _, _, _, _⟩) rfl (fun K hK => ?_) AllReadyH.nil
          go_simp
          have M4 := Lib.hid (((M3.out.other (g := wr.heap.size) (j := 0) (by omega) (by omega) (by omega) (.int .i64 a2v)).other (g := wr.heap.size) (j := 1) (by omega) (by omega) (by omega) (.int .i64 b)).other (g := wr.heap.size) (j := 2) (by omega) (by omega) (by omega) (.int .i64 c2v))
          obtain ⟨_, _, _, _, _, ⟨s0, s1⟩, ⟨s2, s3, s4⟩, _⟩ := M4.out
          have yo4 : (((V3.setCell ⟨wr.heap.size, 0, none⟩ (.int .i64 a2v)).setCell ⟨wr.heap.size, 1, none⟩ (.int .i64 b)).setCell ⟨wr.heap.size, 2, none⟩ (.int .i64 c2v)).cell? ⟨ob, oo + k, none⟩ = _ := (World.cell?_setCell_other _ _ _ _ (fun e => by injection e; omega)).trans ((World.cell?_setCell_other _ _ _ _ (fun e => by injection e; omega)).trans ((World.cell?_setCell_other _ _ _ _ (fun e => by injection e; omega)).trans yo3))
          (refine hK.out _ _ ?_ (fun hHeld => ?_))
          · exact ⟨s2, s3, s4, s0, s1, yo4⟩
          clear hK K
          ((refine wpAnyH_take (i := 13) (oi := ⟨some 13, _, _, _, _, _⟩) (v := ?_) rfl (by kernel_rfl) (by kernel_rfl) (by kernel_rfl) (fun _ _ _ h => h) (Or.inl ⟨by rfl, ?_⟩) (by assumption) ?_; rotate_left 1; (focus (intro w hSw; (try dsimp only at hSw); go_simp <;> try (first | (with_reducible rfl) | (rw [if_neg (by omega)]) | (rw [if_pos (by omega)])))); try simp only [Act.put, List.setIfInBounds_toArray, List.set_cons_zero, List.set_cons_succ]))
          refine wpAnyH_done (by kernel_rfl) ?_ _
          have GC := three_back (w := V3) (r := wr.heap.size) (v0 := .int .i64 a2v) (v1 := .int .i64 b) (v2 := .int .i64 c2v) o0 o1 o2
          generalize ((V3.setCell ⟨wr.heap.size, 0, none⟩ (.int .i64 a2v)).setCell ⟨wr.heap.size, 1, none⟩ (.int .i64 b)).setCell ⟨wr.heap.size, 2, none⟩ (.int .i64 c2v) = X4 at M4 GC ⊢
          obtain ⟨p0, p1, p2⟩ := GC
          clear y0 y1 x0 x1 x2 f0 f1 f2 yo hHeld M3 M1 o0 o1 o2 of0 of1 of2 kz fz yo3 u0 u1 v0 v1 v2 yo4 s0 s1 s2 s3 s4
          obtain ⟨_, _, _, _, _, ⟨c0, c1⟩, ⟨r0, r1, r2⟩, r3, r4, r5⟩ := M4.out
          go_wp2
          go_roundw
          case rel =>
            have ea : (itB ls vs a b c ys (fun _ => s) (k + 1)).a = a2v := by rw [E1.out, HYV.out, HAV.out, HCV.out]; rfl
            have ec : (itB ls vs a b c ys (fun _ => s) (k + 1)).c = c2v := by rw [E2.out, HYV.out, HAV.out, HCV.out]; rfl
            have ez : (itB ls vs a b c ys (fun _ => s) (k + 1)).z = zv + z2v := by rw [E3.out, HYV.out, HAV.out, HCV.out, HZV.out]; rfl
            exact ⟨k + 1, by omega, by rw [ez], by go_num, (by rw [ea, ec]; exact M4.out.set a2v b c2v), fun j hj => by
              by_cases ej : j = k
              · subst ej; exact HNZ.out
              · exact hno.out j (by omega)⟩
          case measure => simp [intOf]; omega


end Go.Proofs.YtckhfkgldemcnaaDoor
