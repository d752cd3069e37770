/- Breaches: hour after hour, as long as something holds. -/
import Derived.Test.YtckhfkgldemcnaaDoorBreU
import Derived.Test.YtckhfkgldemcnaaDoorBreX
namespace Go.Proofs.YtckhfkgldemcnaaDoor
open Go.RowKit

/-- the polder after k hours -/
structure HQ (X : World) (bk : Nat) (A0 : Option Addr) (n0 k0 : Nat) (ls : List Int) (A1 : Option Addr) (n1 k1 : Nat) (vs : List Int) (a b c : Int) (O : Option Addr) (no ko : Nat) (T : Option Addr) (nt kt : Nat) (ys : List Int) (st : Nat → Int) (k : Nat) (W : World) : Prop where
  ch : Chg bk (bk + 1) X W
  pb : PBox W bk (itB ls vs a b c ys st k).a b (itB ls vs a b c ys st k).c A0 n0 k0 A1 n1 k1 (.slice O no ko) (.slice T nt kt) (k : Int) (itB ls vs a b c ys st k).z
theorem Chg.comp {lo hi : Nat} {u v w : World} (h : Chg lo hi u v) (k : Chg lo hi v w) : Chg lo hi u w :=
  ⟨k.os.trans h.os, k.tape.trans h.tape, k.output.trans h.output, Nat.le_trans h.size k.size, fun i hi' hl => (k.block i (Nat.lt_of_lt_of_le hi' h.size) hl).trans (h.block i hi' hl)⟩
/-- what 'run_t' asks of the world in which the polder's box is new -/
structure RunOk (X : World) (bk : Nat) (A0 : Option Addr) (n0 k0 : Nat) (ls : List Int) (A1 : Option Addr) (n1 k1 : Nat) (vs : List Int) (a b c : Int) (O : Option Addr) (no ko : Nat) (T : Option Addr) (nt kt : Nat) (ys : List Int) (st : Nat → Int) (se0 se1 : Addr) : Prop where
  pb : PBox X bk a b c A0 n0 k0 A1 n1 k1 (.slice O no ko) (.slice T nt kt) 0 0
  ra : Rd X bk A0 n0 ls
  rb : Rd X bk A1 n1 vs
  ro : Rd X bk O no ys
  ln0 : n0 ≤ 1048576
  ln1 : n1 ≤ 1048576
  lno : no ≤ 100
  lnt : no ≤ nt
  nt2 : nt ≤ 1048576
  hT : ∀ k, k < no → ∃ tb tq, T = some ⟨tb, tq, none⟩ ∧ tb < bk ∧ X.cell? ⟨tb, tq + k, none⟩ = some (.int .i64 (st k))
  br : brOk ls vs a b c
  hh : HrsOk ys st
  se : Sent X bk se0 se1

theorem PBox.eq {X V : World} {bk : Nat} {a b c : Int} {A0 : Option Addr} {n0 k0 : Nat} {A1 : Option Addr} {n1 k1 : Nat} {ov tv : Value} {h z : Int} (p : PBox X bk a b c A0 n0 k0 A1 n1 k1 ov tv h z) (hs : X.heap.size ≤ V.heap.size) (hb : V.heap[bk]? = X.heap[bk]?) : PBox V bk a b c A0 n0 k0 A1 n1 k1 ov tv h z := by
  obtain ⟨s, ⟨x0, x1, x2, x3, x4, x5, x6, x7, x8⟩, ⟨f0, f2, f7, f8⟩⟩ := p
  have c : ∀ (o : Nat), V.cell? ⟨bk, o, none⟩ = X.cell? ⟨bk, o, none⟩ := fun o => World.cell?_of_block (w := X) hb
  have f : ∀ (o : Nat), V.frozen? ⟨bk, o, none⟩ = X.frozen? ⟨bk, o, none⟩ := fun o => World.frozen?_of_block (w := X) hb
  exact ⟨Nat.lt_of_lt_of_le s hs, ⟨(c 0).trans x0, (c 1).trans x1, (c 2).trans x2, (c 3).trans x3, (c 4).trans x4, (c 5).trans x5, (c 6).trans x6, (c 7).trans x7, (c 8).trans x8⟩, ⟨(f 0).trans f0, (f 2).trans f2, (f 7).trans f7, (f 8).trans f8⟩⟩

set_option maxHeartbeats 1600000 in
theorem hq_pass {X : World} {bk : Nat} {A0 : Option Addr} {n0 k0 : Nat} {ls : List Int} {A1 : Option Addr} {n1 k1 : Nat} {vs : List Int} {a b c : Int} {O : Option Addr} {no ko : Nat} {T : Option Addr} {nt kt : Nat} {ys : List Int} {st : Nat → Int} {se0 se1 : Addr} (R : RunOk X bk A0 n0 k0 ls A1 n1 k1 vs a b c O no ko T nt kt ys st se0 se1) (k : Nat) (W : World) (hk : k < no) (q : HQ X bk A0 n0 k0 ls A1 n1 k1 vs a b c O no ko T nt kt ys st k W) :
    Calls Tryd.prog 57 #[.pointer (some ⟨bk, 0, none⟩)] W fun e W' => e = .returned (.tuple #[]) ∧ HQ X bk A0 n0 k0 ls A1 n1 k1 vs a b c O no ko T nt kt ys st (k + 1) W' ∧ Chg bk (bk + 1) W W' := by
  have hsz := R.pb.sz
  have hl := R.ro.1
  obtain ⟨h1, h2, h3⟩ := itB_ok R.br R.hh k (by omega)
  obtain ⟨g1, g2⟩ := R.hh k (by omega)
  obtain ⟨ob, oo, hO, hob, hoc⟩ := R.ro.2 (by omega)
  obtain ⟨tb, tq, hT, htb, htc⟩ := R.hT k hk
  have hd : Below bk X W := q.ch.below (Nat.le_refl _) (by omega)
  have hn := R.lno
  refine (pass_t bk A0 n0 k0 ls A1 n1 k1 vs (itB ls vs a b c ys st k).a b (itB ls vs a b c ys st k).c (itB ls vs a b c ys st k).z O no ko T nt kt k (ys.getD k 0) (st k) W q.pb R.ln0 R.ln1 (q.ch.rd R.ra (by omega)) (q.ch.rd R.rb (by omega)) h1 g1 g2 (by omega) R.nt2 hk (by have := R.lnt; omega)
    ⟨ob, oo, hO, hob, (q.ch.cell (by omega) (.inl hob)).trans (hoc k hk)⟩ ⟨tb, tq, hT, htb, (q.ch.cell (by omega) (.inl htb)).trans htc⟩ ⟨h2, h3⟩ _ _ _ rfl rfl rfl se0 se1 (R.se.below hd)).mono ?_
  rintro e W' ⟨rfl, c1, p1⟩
  exact ⟨rfl, ⟨q.ch.comp c1, by
    rw [show (((k + 1 : Nat) : Int)) = (k : Int) + 1 by omega]
    exact p1⟩, c1⟩

set_option maxHeartbeats 1600000 in
theorem run_t (X : World) (bk : Nat) (A0 : Option Addr) (n0 k0 : Nat) (ls : List Int) (A1 : Option Addr) (n1 k1 : Nat) (vs : List Int) (a b c : Int) (O : Option Addr) (no ko : Nat) (T : Option Addr) (nt kt : Nat) (ys : List Int) (st : Nat → Int) (se0 se1 : Addr) (R : RunOk X bk A0 n0 k0 ls A1 n1 k1 vs a b c O no ko T nt kt ys st se0 se1) (f : FuncId) (cap : Array Value) (hcf : ∀ W, (callFunc f cap).run Tryd.prog W = .ok (.enter f cap) W) (p : Nat → Bool)
    (hF : ∀ k W, k ≤ no → HQ X bk A0 n0 k0 ls A1 n1 k1 vs a b c O no ko T nt kt ys st k W → Calls Tryd.prog f cap W fun e W' => e = .returned (.bool (p k)) ∧ Below W.heap.size W W') :
    Calls Tryd.prog 60 #[.pointer (some ⟨bk, 0, none⟩), .func (.func f) #[] cap] X fun e W' => ∃ v k, e = .returned (.bool v) ∧ HQ X bk A0 n0 k0 ls A1 n1 k1 vs a b c O no ko T nt kt ys st k W' ∧ k ≤ no ∧ (∀ j, j < k → p j = true) ∧ ((v = false ∧ p k = false) ∨ (v = true ∧ k = no ∧ p no = true)) := by
  have hsz := R.pb.sz
  refine (lasts_t bk f cap no p (HQ X bk A0 n0 k0 ls A1 n1 k1 vs a b c O no ko T nt kt ys st) (HQ X bk A0 n0 k0 ls A1 n1 k1 vs a b c O no ko T nt kt ys st) X hsz hcf ?_ ?_ ?_ ?_ ?_ ?_).mono ?_
  · intro k W q
    obtain ⟨_, ⟨_, _, _, _, _, _, _, x7, _⟩, _⟩ := q.pb
    unfold hrs
    rw [x7]
    simp [intOf]
  · have A : Below X.heap.size X (X.alloc (.cells #[.bool false] 4)) := Below.alloc (Below.refl _ _) (Nat.le_refl _) _
    exact ⟨(Chg.refl' _ _ _).thenB A, R.pb.below A⟩
  · intro k W m q
    exact ⟨q.ch.thenB (below_drewN (Below.refl _ _) m), q.pb.below (below_drewN (Below.refl _ _) m)⟩
  · intro k W hk hs q
    refine (hF k W hk q).mono ?_
    rintro e W' ⟨h1, hb⟩
    exact ⟨h1, ⟨q.ch.thenB hb, q.pb.below hb⟩, hb.block _ hs, hb.size⟩
  · intro k W hk hs q
    refine (hq_pass R k W hk q).mono ?_
    rintro e W' ⟨h1, q1, c1⟩
    exact ⟨h1, q1, c1.block _ hs (.inr (by omega)), c1.size⟩
  · intro W hs q
    refine (pass_x bk A0 n0 k0 ls A1 n1 k1 vs _ b _ _ O no ko T nt kt no W q.pb (by have := R.lno; omega) rfl).mono ?_
    rintro e W' ⟨h1, m, h2⟩
    exact ⟨h1, m, h2⟩
  · rintro e W' ⟨W, v, k, h1, c1, q, h2, h3, h4, h5⟩
    refine ⟨v, k, h1, ⟨⟨c1.os.trans q.ch.os, c1.tape.trans q.ch.tape, c1.output.trans q.ch.output, Nat.le_trans q.ch.size c1.size, fun i hi hl => (c1.block i (Nat.lt_of_lt_of_le hi q.ch.size) (.inl hi)).trans (q.ch.block i hi hl)⟩, q.pb.eq c1.size (c1.block bk (by omega) (.inl hsz))⟩, h2, h3, h5⟩

set_option maxRecDepth 100000 in
set_option maxHeartbeats 1600000 in
theorem clL_t (bk lb : Nat) (A0 : Option Addr) (n0 k0 : Nat) (ls : List Int) (A1 : Option Addr) (n1 k1 : Nat) (vs : List Int) (a b c y hv zv : Int) (ov tv : Value) (w : World) (pb : PBox w bk a b c A0 n0 k0 A1 n1 k1 ov tv hv zv) (lsz : lb < w.heap.size) (yl : w.cell? ⟨lb, 0, none⟩ = some (.int .i64 y)) (hn0 : n0 ≤ 1048576) (hn1 : n1 ≤ 1048576) (ra : Rd w w.heap.size A0 n0 ls) (rb : Rd w w.heap.size A1 n1 vs) (h : brOk ls vs a b c) (se0 se1 : Addr) (hsent : Sent w w.heap.size se0 se1) (v : Bool) (hv2 : v = decide (lvAt ls vs c < y)) :
    Calls Tryd.prog 64 #[.pointer (some ⟨bk, 0, none⟩), .pointer (some ⟨lb, 0, none⟩)] w fun e w' => e = .returned (.bool v) ∧ Below w.heap.size w w' := by
  have RA := Lib.hid ra
  have RB := Lib.hid rb
  have HC := Lib.hid h.1
  have HS := Lib.hid hsent
  have h0 := h.2.1.2.2.1
  have h1 := h.2.2
  obtain ⟨lv, hlv⟩ : ∃ l, l = lvAt ls vs c := ⟨_, rfl⟩
  rw [← hlv] at hv2
  have HL := Lib.hid hlv
  obtain ⟨sz, ⟨x0, x1, x2, x3, x4, x5, x6, x7, x8⟩, _⟩ := pb
  have HV := Lib.hid hv2
  clear h hlv hsent ra rb hv2
  go_enter Tryd.func64, Tryd.ntmps64
  go_wp2_with fail
  refine wp_region_held_drew (S := fun w' => w'.cell? ⟨bk, 0, none⟩ = some (.int .i64 a) ∧ w'.cell? ⟨bk, 1, none⟩ = some (.int .i64 b) ∧ w'.cell? ⟨bk, 2, none⟩ = some (.int .i64 c) ∧ w'.cell? ⟨bk, 3, none⟩ = some (.slice A0 n0 k0) ∧ w'.cell? ⟨bk, 4, none⟩ = some (.slice A1 n1 k1) ∧ w'.cell? ⟨bk, 5, none⟩ = some (ov) ∧ w'.cell? ⟨bk, 6, none⟩ = some (tv) ∧ w'.cell? ⟨bk, 7, none⟩ = some (.int .i64 hv) ∧ w'.cell? ⟨bk, 8, none⟩ = some (.int .i64 zv) ∧ w'.cell? ⟨lb, 0, none⟩ = some (.int .i64 y)) (by kernel_rfl) ⟨x0, x1, x2, x3, x4, x5, x6, x7, x8, yl⟩ (fun hHeld => ?_)
  ((refine wpAnyH_take (i := 0) (oi := ⟨some 3, _, _, _, _, _⟩) (v := ?_) rfl (by kernel_rfl) (by kernel_rfl) (by kernel_rfl) (fun _ _ _ h => h) (Or.inl ⟨by rfl, ?_⟩) (by assumption) ?_; rotate_left 1; (focus (intro w hSw; (try dsimp only at hSw); go_simp <;> try (first | (with_reducible rfl) | (rw [if_neg (by omega)]) | (rw [if_pos (by omega)])))); try simp only [Act.put, List.setIfInBounds_toArray, List.set_cons_zero, List.set_cons_succ]); (refine wpAnyH_take (i := 2) (oi := ⟨some 5, _, _, _, _, _⟩) (v := ?_) rfl (by kernel_rfl) (by kernel_rfl) (by kernel_rfl) (fun _ _ _ h => h) (Or.inl ⟨by rfl, ?_⟩) (by assumption) ?_; rotate_left 1; (focus (intro w hSw; (try dsimp only at hSw); go_simp <;> try (first | (with_reducible rfl) | (rw [if_neg (by omega)]) | (rw [if_pos (by omega)])))); try simp only [Act.put, List.setIfInBounds_toArray, List.set_cons_zero, List.set_cons_succ]))
  (refine wpAnyH_ready (rs := [1]) (by kernel_rfl) (by simp) ?_; refine AllReadyH.cons rfl (fun K hK => ?_) AllReadyH.nil; go_simp)
  refine (insI_t A0 n0 k0 ls A1 n1 k1 vs a b c ov tv (.int .i64 hv) (.int .i64 zv) _ hn0 hn1 ((RA.out.below (by repeat (first | assumption | exact Below.refl _ _ | (refine Below.setCell ?_ (by first | omega | (simp; done) | (simp; omega)) _) | apply below_drewN | apply Below.drew | (refine Below.alloc ?_ (by first | omega | (simp; done) | (simp; omega)) _)))).mono (by first | omega | (simp; done) | (simp; omega))) ((RB.out.below (by repeat (first | assumption | exact Below.refl _ _ | (refine Below.setCell ?_ (by first | omega | (simp; done) | (simp; omega)) _) | apply below_drewN | apply Below.drew | (refine Below.alloc ?_ (by first | omega | (simp; done) | (simp; omega)) _)))).mono (by first | omega | (simp; done) | (simp; omega))) HC.out h0 h1 lv HL.out se0 se1 ((HS.out.below (by repeat (first | assumption | exact Below.refl _ _ | (refine Below.setCell ?_ (by first | omega | (simp; done) | (simp; omega)) _) | apply below_drewN | apply Below.drew | (refine Below.alloc ?_ (by first | omega | (simp; done) | (simp; omega)) _)))).mono (by first | omega | (simp; done) | (simp; omega)))).mono ?_
  rintro e1 V1 ⟨rfl, B1⟩
  have q0 := (B1.cell (p := ⟨bk, 0, none⟩) (by first | exact sz | exact lsz | omega)).trans hHeld.1
  have q1 := (B1.cell (p := ⟨bk, 1, none⟩) (by first | exact sz | exact lsz | omega)).trans hHeld.2.1
  have q2 := (B1.cell (p := ⟨bk, 2, none⟩) (by first | exact sz | exact lsz | omega)).trans hHeld.2.2.1
  have q3 := (B1.cell (p := ⟨bk, 3, none⟩) (by first | exact sz | exact lsz | omega)).trans hHeld.2.2.2.1
  have q4 := (B1.cell (p := ⟨bk, 4, none⟩) (by first | exact sz | exact lsz | omega)).trans hHeld.2.2.2.2.1
  have q5 := (B1.cell (p := ⟨bk, 5, none⟩) (by first | exact sz | exact lsz | omega)).trans hHeld.2.2.2.2.2.1
  have q6 := (B1.cell (p := ⟨bk, 6, none⟩) (by first | exact sz | exact lsz | omega)).trans hHeld.2.2.2.2.2.2.1
  have q7 := (B1.cell (p := ⟨bk, 7, none⟩) (by first | exact sz | exact lsz | omega)).trans hHeld.2.2.2.2.2.2.2.1
  have q8 := (B1.cell (p := ⟨bk, 8, none⟩) (by first | exact sz | exact lsz | omega)).trans hHeld.2.2.2.2.2.2.2.2.1
  have q9 := (B1.cell (p := ⟨lb, 0, none⟩) (by first | exact sz | exact lsz | omega)).trans hHeld.2.2.2.2.2.2.2.2.2
  have D1 : Below w.heap.size w V1 := (by repeat (first | assumption | exact Below.refl _ _ | (refine Below.trans ?_ (B1.mono (by first | omega | (simp; done) | (simp; omega)))) | (refine Below.setCell ?_ (by first | omega | (simp; done) | (simp; omega)) _) | apply below_drewN | apply Below.drew | (refine Below.alloc ?_ (by first | omega | (simp; done) | (simp; omega)) _)))
  clear hHeld
  (refine hK.out _ _ ?_ (fun hHeld => ?_))
  · exact ⟨q0, q1, q2, q3, q4, q5, q6, q7, q8, q9⟩
  clear hK K
  ((refine wpAnyH_take (i := 3) (oi := ⟨some 6, _, _, _, _, _⟩) (v := ?_) rfl (by kernel_rfl) (by kernel_rfl) (by kernel_rfl) (fun _ _ _ h => h) (Or.inl ⟨by rfl, ?_⟩) (by assumption) ?_; rotate_left 1; (focus (intro w hSw; (try dsimp only at hSw); go_simp <;> try (first | (with_reducible rfl) | (rw [if_neg (by omega)]) | (rw [if_pos (by omega)])))); try simp only [Act.put, List.setIfInBounds_toArray, List.set_cons_zero, List.set_cons_succ]); (refine wpAnyH_take (i := 4) (oi := ⟨some 2, _, _, _, _, _⟩) (v := ?_) rfl (by kernel_rfl) (by kernel_rfl) (by kernel_rfl) (fun _ _ _ h => h) (Or.inl ⟨by rfl, ?_⟩) (by assumption) ?_; rotate_left 1; (focus (intro w hSw; (try dsimp only at hSw); go_simp <;> try (first | (with_reducible rfl) | (rw [if_neg (by omega)]) | (rw [if_pos (by omega)])))); try simp only [Act.put, List.setIfInBounds_toArray, List.set_cons_zero, List.set_cons_succ]))
  refine wpAnyH_done (by kernel_rfl) ?_ _
  go_wp2
  go_ret
  exact ⟨ret_bool HV.out.symm, D1⟩

set_option maxRecDepth 100000 in
set_option maxHeartbeats 1600000 in
theorem clS_t (bk lb : Nat) (A0 : Option Addr) (n0 k0 : Nat) (ls : List Int) (A1 : Option Addr) (n1 k1 : Nat) (vs : List Int) (a b c y hv zv : Int) (ov tv : Value) (w : World) (pb : PBox w bk a b c A0 n0 k0 A1 n1 k1 ov tv hv zv) (lsz : lb < w.heap.size) (yl : w.cell? ⟨lb, 0, none⟩ = some (.int .i64 y)) (hn0 : n0 ≤ 1048576) (hn1 : n1 ≤ 1048576) (ra : Rd w w.heap.size A0 n0 ls) (rb : Rd w w.heap.size A1 n1 vs) (h : brOk ls vs a b c) (se0 se1 : Addr) (hsent : Sent w w.heap.size se0 se1) (v : Bool) (hv2 : v = decide (lvAt ls vs c ≤ y)) :
    Calls Tryd.prog 69 #[.pointer (some ⟨bk, 0, none⟩), .pointer (some ⟨lb, 0, none⟩)] w fun e w' => e = .returned (.bool v) ∧ Below w.heap.size w w' := by
  have RA := Lib.hid ra
  have RB := Lib.hid rb
  have HC := Lib.hid h.1
  have HS := Lib.hid hsent
  have h0 := h.2.1.2.2.1
  have h1 := h.2.2
  obtain ⟨lv, hlv⟩ : ∃ l, l = lvAt ls vs c := ⟨_, rfl⟩
  rw [← hlv] at hv2
  have HL := Lib.hid hlv
  obtain ⟨sz, ⟨x0, x1, x2, x3, x4, x5, x6, x7, x8⟩, _⟩ := pb
  have HV := Lib.hid hv2
  clear h hlv hsent ra rb hv2
  go_enter Tryd.func69, Tryd.ntmps69
  go_wp2_with fail
  refine wp_region_held_drew (S := fun w' => w'.cell? ⟨bk, 0, none⟩ = some (.int .i64 a) ∧ w'.cell? ⟨bk, 1, none⟩ = some (.int .i64 b) ∧ w'.cell? ⟨bk, 2, none⟩ = some (.int .i64 c) ∧ w'.cell? ⟨bk, 3, none⟩ = some (.slice A0 n0 k0) ∧ w'.cell? ⟨bk, 4, none⟩ = some (.slice A1 n1 k1) ∧ w'.cell? ⟨bk, 5, none⟩ = some (ov) ∧ w'.cell? ⟨bk, 6, none⟩ = some (tv) ∧ w'.cell? ⟨bk, 7, none⟩ = some (.int .i64 hv) ∧ w'.cell? ⟨bk, 8, none⟩ = some (.int .i64 zv) ∧ w'.cell? ⟨lb, 0, none⟩ = some (.int .i64 y)) (by kernel_rfl) ⟨x0, x1, x2, x3, x4, x5, x6, x7, x8, yl⟩ (fun hHeld => ?_)
  ((refine wpAnyH_take (i := 0) (oi := ⟨some 3, _, _, _, _, _⟩) (v := ?_) rfl (by kernel_rfl) (by kernel_rfl) (by kernel_rfl) (fun _ _ _ h => h) (Or.inl ⟨by rfl, ?_⟩) (by assumption) ?_; rotate_left 1; (focus (intro w hSw; (try dsimp only at hSw); go_simp <;> try (first | (with_reducible rfl) | (rw [if_neg (by omega)]) | (rw [if_pos (by omega)])))); try simp only [Act.put, List.setIfInBounds_toArray, List.set_cons_zero, List.set_cons_succ]); (refine wpAnyH_take (i := 2) (oi := ⟨some 5, _, _, _, _, _⟩) (v := ?_) rfl (by kernel_rfl) (by kernel_rfl) (by kernel_rfl) (fun _ _ _ h => h) (Or.inl ⟨by rfl, ?_⟩) (by assumption) ?_; rotate_left 1; (focus (intro w hSw; (try dsimp only at hSw); go_simp <;> try (first | (with_reducible rfl) | (rw [if_neg (by omega)]) | (rw [if_pos (by omega)])))); try simp only [Act.put, List.setIfInBounds_toArray, List.set_cons_zero, List.set_cons_succ]))
  (refine wpAnyH_ready (rs := [1]) (by kernel_rfl) (by simp) ?_; refine AllReadyH.cons rfl (fun K hK => ?_) AllReadyH.nil; go_simp)
  refine (insI_t A0 n0 k0 ls A1 n1 k1 vs a b c ov tv (.int .i64 hv) (.int .i64 zv) _ hn0 hn1 ((RA.out.below (by repeat (first | assumption | exact Below.refl _ _ | (refine Below.setCell ?_ (by first | omega | (simp; done) | (simp; omega)) _) | apply below_drewN | apply Below.drew | (refine Below.alloc ?_ (by first | omega | (simp; done) | (simp; omega)) _)))).mono (by first | omega | (simp; done) | (simp; omega))) ((RB.out.below (by repeat (first | assumption | exact Below.refl _ _ | (refine Below.setCell ?_ (by first | omega | (simp; done) | (simp; omega)) _) | apply below_drewN | apply Below.drew | (refine Below.alloc ?_ (by first | omega | (simp; done) | (simp; omega)) _)))).mono (by first | omega | (simp; done) | (simp; omega))) HC.out h0 h1 lv HL.out se0 se1 ((HS.out.below (by repeat (first | assumption | exact Below.refl _ _ | (refine Below.setCell ?_ (by first | omega | (simp; done) | (simp; omega)) _) | apply below_drewN | apply Below.drew | (refine Below.alloc ?_ (by first | omega | (simp; done) | (simp; omega)) _)))).mono (by first | omega | (simp; done) | (simp; omega)))).mono ?_
  rintro e1 V1 ⟨rfl, B1⟩
  have q0 := (B1.cell (p := ⟨bk, 0, none⟩) (by first | exact sz | exact lsz | omega)).trans hHeld.1
  have q1 := (B1.cell (p := ⟨bk, 1, none⟩) (by first | exact sz | exact lsz | omega)).trans hHeld.2.1
  have q2 := (B1.cell (p := ⟨bk, 2, none⟩) (by first | exact sz | exact lsz | omega)).trans hHeld.2.2.1
  have q3 := (B1.cell (p := ⟨bk, 3, none⟩) (by first | exact sz | exact lsz | omega)).trans hHeld.2.2.2.1
  have q4 := (B1.cell (p := ⟨bk, 4, none⟩) (by first | exact sz | exact lsz | omega)).trans hHeld.2.2.2.2.1
  have q5 := (B1.cell (p := ⟨bk, 5, none⟩) (by first | exact sz | exact lsz | omega)).trans hHeld.2.2.2.2.2.1
  have q6 := (B1.cell (p := ⟨bk, 6, none⟩) (by first | exact sz | exact lsz | omega)).trans hHeld.2.2.2.2.2.2.1
  have q7 := (B1.cell (p := ⟨bk, 7, none⟩) (by first | exact sz | exact lsz | omega)).trans hHeld.2.2.2.2.2.2.2.1
  have q8 := (B1.cell (p := ⟨bk, 8, none⟩) (by first | exact sz | exact lsz | omega)).trans hHeld.2.2.2.2.2.2.2.2.1
  have q9 := (B1.cell (p := ⟨lb, 0, none⟩) (by first | exact sz | exact lsz | omega)).trans hHeld.2.2.2.2.2.2.2.2.2
  have D1 : Below w.heap.size w V1 := (by repeat (first | assumption | exact Below.refl _ _ | (refine Below.trans ?_ (B1.mono (by first | omega | (simp; done) | (simp; omega)))) | (refine Below.setCell ?_ (by first | omega | (simp; done) | (simp; omega)) _) | apply below_drewN | apply Below.drew | (refine Below.alloc ?_ (by first | omega | (simp; done) | (simp; omega)) _)))
  clear hHeld
  (refine hK.out _ _ ?_ (fun hHeld => ?_))
  · exact ⟨q0, q1, q2, q3, q4, q5, q6, q7, q8, q9⟩
  clear hK K
  ((refine wpAnyH_take (i := 3) (oi := ⟨some 6, _, _, _, _, _⟩) (v := ?_) rfl (by kernel_rfl) (by kernel_rfl) (by kernel_rfl) (fun _ _ _ h => h) (Or.inl ⟨by rfl, ?_⟩) (by assumption) ?_; rotate_left 1; (focus (intro w hSw; (try dsimp only at hSw); go_simp <;> try (first | (with_reducible rfl) | (rw [if_neg (by omega)]) | (rw [if_pos (by omega)])))); try simp only [Act.put, List.setIfInBounds_toArray, List.set_cons_zero, List.set_cons_succ]); (refine wpAnyH_take (i := 4) (oi := ⟨some 2, _, _, _, _, _⟩) (v := ?_) rfl (by kernel_rfl) (by kernel_rfl) (by kernel_rfl) (fun _ _ _ h => h) (Or.inl ⟨by rfl, ?_⟩) (by assumption) ?_; rotate_left 1; (focus (intro w hSw; (try dsimp only at hSw); go_simp <;> try (first | (with_reducible rfl) | (rw [if_neg (by omega)]) | (rw [if_pos (by omega)])))); try simp only [Act.put, List.setIfInBounds_toArray, List.set_cons_zero, List.set_cons_succ]))
  refine wpAnyH_done (by kernel_rfl) ?_ _
  go_wp2
  go_ret
  exact ⟨ret_bool HV.out.symm, D1⟩

theorem clC_t (bk : Nat) (a b c hv zv : Int) (A0 : Option Addr) (n0 k0 : Nat) (A1 : Option Addr) (n1 k1 : Nat) (ov tv : Value) (w : World) (pb : PBox w bk a b c A0 n0 k0 A1 n1 k1 ov tv hv zv) (v : Bool) (hv2 : v = decide (0 < a)) :
    Calls Tryd.prog 95 #[.pointer (some ⟨bk, 0, none⟩)] w fun e w' => e = .returned (.bool v) ∧ Below w.heap.size w w' := by
  obtain ⟨sz, ⟨x0, _⟩, _⟩ := pb
  have HV := Lib.hid hv2
  clear hv2
  go_enter Tryd.func95, Tryd.ntmps95
  go_wp2
  go_ret
  exact ⟨ret_bool HV.out.symm, (by repeat (first | assumption | exact Below.refl _ _ | (refine Below.setCell ?_ (by first | omega | (simp; done) | (simp; omega)) _) | apply below_drewN | apply Below.drew | (refine Below.alloc ?_ (by first | omega | (simp; done) | (simp; omega)) _)))⟩


end Go.Proofs.YtckhfkgldemcnaaDoor
