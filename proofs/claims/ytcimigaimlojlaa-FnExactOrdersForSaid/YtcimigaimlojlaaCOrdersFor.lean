/- The orders that open a sluice whenever water can go out. -/
import Derived.Test.YtcimigaimlojlaaRSluice
import Derived.Test.YtcimigaimlojlaaHrI
import Derived.Test.YtcimigaimlojlaaHrs
import Derived.Test.YtcimigaimlojlaaRainP
import Derived.Test.YtcimigaimlojlaaOwnS
import Derived.BigQuiet
namespace Go.Proofs.Ytcimigaimlojlaa
open Go.RowKit Go.Shelf

def wtA (sl mg : Int) (xs ys : List Int) (j : Nat) : Bool := decide (mg ≤ xs.getD j 0 - ys.getD j 0 ∧ sl < xs.getD j 0)
def wsA (wt : Nat → Bool) : Nat → Bool
  | 0 => false
  | j + 1 => wt j
def orN (was is : Bool) : Int := if was = is then 0 else if is = true then 1 else 2
def orA (wt : Nat → Bool) (j : Nat) : Int := orN (wsA wt j) (wt j)
/-- the state behind some hours: open or not, the orders -/
def orS (wt : Nat → Bool) (pre : List Nat) : Bool × (Nat → Int) := pre.foldl (fun s k => (wt k, fun j => if j = k then orN s.1 (wt k) else s.2 j)) (false, fun _ => 0)
theorem orS_snoc (wt : Nat → Bool) (pre : List Nat) (k : Nat) : orS wt (pre ++ [k]) = (wt k, fun j => if j = k then orN (orS wt pre).1 (wt k) else (orS wt pre).2 j) := by
  unfold orS
  rw [List.foldl_append]
  rfl
theorem orS_range (wt : Nat → Bool) : ∀ n, (orS wt (List.range n)).1 = wsA wt n ∧ ∀ j, (orS wt (List.range n)).2 j = if j < n then orA wt j else 0 := by
  intro n
  induction n with
  | zero => exact ⟨rfl, fun j => by rw [if_neg (Nat.not_lt_zero j)]; rfl⟩
  | succ n ih =>
    rw [List.range_succ, orS_snoc]
    refine ⟨rfl, fun j => ?_⟩
    show (if j = n then orN (orS wt (List.range n)).1 (wt n) else (orS wt (List.range n)).2 j) = _
    rw [ih.1, ih.2 j]
    by_cases e : j = n
    · subst e; rw [if_pos rfl, if_pos (by omega)]; rfl
    · rw [if_neg e]
      by_cases c : j < n
      · rw [if_pos c, if_pos (by omega)]
      · rw [if_neg c, if_neg (by omega)]
def mgOk (m : Int) : Prop := 1 ≤ m ∧ m ≤ 4000
instance (m : Int) : Decidable (mgOk m) := by unfold mgOk; exact inferInstance
def ofR (xa1 xa2 : List Int) (a3 : Int) : Prop := hrOk xa1.length xa2.length xa1 xa2 ∧ mgOk a3
instance (xa1 xa2 : List Int) (a3 : Int) : Decidable (ofR xa1 xa2 a3) := by unfold ofR; exact inferInstance
def r0_OrdersFor (a0_0 : Int) (a0_1 : Int) (xa1 : List Int) (xa2 : List Int) (a3 : Int) : List Int := if slOk a0_0 a0_1 ∧ ofR xa1 xa2 a3 then rowOf (orA (wtA a0_1 a3 xa1 xa2)) xa1.length else []
def r1_OrdersFor (a0_0 : Int) (a0_1 : Int) (xa1 : List Int) (xa2 : List Int) (a3 : Int) : Int := sc3 (slOk a0_0 a0_1) (ofR xa1 xa2 a3)
theorem len_r0_OrdersFor (a0_0 : Int) (a0_1 : Int) (xa1 : List Int) (xa2 : List Int) (a3 : Int) : (r0_OrdersFor a0_0 a0_1 xa1 xa2 a3).length ≤ 1048576 := by
  unfold r0_OrdersFor
  split
  · rename_i h
    have := h.2.1.1.2
    rw [rowOf_len]
    omega
  · simp

theorem ob_t (a b : Bool) (w : World) (k : Int) (hk : k = orN a b) : Calls Try.prog 56 #[.bool a, .bool b] w fun e w' => e = .returned (.int .i64 k) ∧ w = w' := by
  subst hk
  cases a <;> cases b
  all_goals
    go_enter Try.func56, Try.ntmps56
    go_wp2
    go_ret
    exact ⟨rfl, rfl⟩

set_option maxRecDepth 100000 in
set_option maxHeartbeats 6400000 in
theorem specC_OrdersFor (a0_0 : Int) (a0_1 : Int) (a1 : Option Addr) (la1 ca1 : Nat) (xa1 : List Int) (a2 : Option Addr) (la2 ca2 : Nat) (xa2 : List Int) (a3 : Int) (w : World) (ha0_0 : (Lit.int .i64 a0_0).wf = true) (ha0_1 : (Lit.int .i64 a0_1).wf = true) (ha1 : la1 ≤ 1048576) (ra1 : Rd w w.heap.size a1 la1 xa1) (fa1 : Wf xa1) (ha2 : la2 ≤ 1048576) (ra2 : Rd w w.heap.size a2 la2 xa2) (fa2 : Wf xa2) (ha3 : (Lit.int .i64 a3).wf = true) :
    Calls Try.prog 24 #[.agg #[.int .i64 a0_0, .int .i64 a0_1], .slice a1 la1 ca1, .slice a2 la2 ca2, .int .i64 a3] w fun e w' => ∃ B0 dB0, e = .returned (.tuple #[.slice B0 (r0_OrdersFor a0_0 a0_1 xa1 xa2 a3).length dB0, .int .i64 (r1_OrdersFor a0_0 a0_1 xa1 xa2 a3)]) ∧ Below w.heap.size w w' ∧ Wr w' w.heap.size B0 (r0_OrdersFor a0_0 a0_1 xa1 xa2 a3).length (r0_OrdersFor a0_0 a0_1 xa1 xa2 a3) := by
  have hl1 := ra1.1
  have hl2 := ra2.1
  have RA := Lib.hid ra1
  have RB := Lib.hid ra2
  clear ra1 ra2
  by_cases h : slOk a0_0 a0_1 ∧ ofR xa1 xa2 a3
  · have e0 : r0_OrdersFor a0_0 a0_1 xa1 xa2 a3 = rowOf (orA (wtA a0_1 a3 xa1 xa2)) la1 := by unfold r0_OrdersFor; rw [if_pos h, hl1]
    have e1 : r1_OrdersFor a0_0 a0_1 xa1 xa2 a3 = 0 := sc3_ok h.1 h.2
    rw [e0, e1, rowOf_len]
    have hh := h.2.1
    rw [hl1, hl2] at hh
    have HC := Lib.hid (show (0 : Int) = sc3 (slOk a0_0 a0_1) (hrOk la1 la2 xa1 xa2) from (sc3_ok h.1 hh).symm)
    have HH := Lib.hid hh
    obtain ⟨m1, m2⟩ := h.2.2
    have h200 := hh.1.2
    obtain rfl : la1 = la2 := hh.1.1
    have HW := Lib.hid (fun k => show wtA a0_1 a3 xa1 xa2 k = decide (a3 ≤ xa1.getD k 0 - xa2.getD k 0 ∧ a0_1 < xa1.getD k 0) from rfl)
    generalize wtA a0_1 a3 xa1 xa2 = wt at *
    clear h e0 e1 hh
    go_enter Try.func24, Try.ntmps24
    go_wp2_with (first | (go_at_call 52; refine (l09Series_t _ _ _ _ _ _ _ _ xa1 xa2 _ ha1 ha2 ((RA.out.below (by repeat (first | assumption | exact Below.refl _ _ | (refine Below.setCell ?_ (by first | omega | (simp; done) | (simp; omega)) _) | apply below_drewN | apply Below.drew | (refine Below.alloc ?_ (by first | omega | (simp; done) | (simp; omega)) _)))).mono (by first | omega | (simp; done) | (simp; omega))) ((RB.out.below (by repeat (first | assumption | exact Below.refl _ _ | (refine Below.setCell ?_ (by first | omega | (simp; done) | (simp; omega)) _) | apply below_drewN | apply Below.drew | (refine Below.alloc ?_ (by first | omega | (simp; done) | (simp; omega)) _)))).mono (by first | omega | (simp; done) | (simp; omega))) 0 HC.out).mono ?_; rintro eo w0 ⟨rfl, b0⟩; obtain ⟨k0, f0⟩ := bcell b0; have p0 : w0.cell? ⟨w.heap.size, 0, none⟩ = some (.int .i64 a0_0) := (by rw [k0 _ _ (by first | omega | (simp; done) | (simp; omega))]; first | (simp; done) | go_simp); have pf0 : w0.frozen? ⟨w.heap.size, 0, none⟩ = false := (by rw [f0 _ _ (by first | omega | (simp; done) | (simp; omega))]; first | (simp; done) | go_simp); have p1 : w0.cell? ⟨w.heap.size, 1, none⟩ = some (.int .i64 a0_1) := (by rw [k0 _ _ (by first | omega | (simp; done) | (simp; omega))]; first | (simp; done) | go_simp); have pf1 : w0.frozen? ⟨w.heap.size, 1, none⟩ = false := (by rw [f0 _ _ (by first | omega | (simp; done) | (simp; omega))]; first | (simp; done) | go_simp); have d0 : Below w.heap.size w w0 := (by repeat (first | assumption | exact Below.refl _ _ | (refine Below.trans ?_ (b0.mono (by first | omega | (simp; done) | (simp; omega)))) | (refine Below.setCell ?_ (by first | omega | (simp; done) | (simp; omega)) _) | apply below_drewN | apply Below.drew | (refine Below.alloc ?_ (by first | omega | (simp; done) | (simp; omega)) _))); have s0 : w.heap.size < w0.heap.size := (by have := b0.size; (try simp at this);omega); clear k0 f0 b0) | (go_at_call 46; first | (refine (in_t _ _ _ _ (by omega)).mono ?_; rintro e w' ⟨rfl, rfl⟩) | (refine (in_f _ _ _ _ (by omega)).mono ?_; rintro e w' ⟨rfl, rfl⟩)))
    have P1 := Lib.hid p1
    clear p0 p1 pf0 pf1
    go_loopw [11, 12, 13, 14, 15] (fun v op i _ _ wr => ∃ k : Nat, k ≤ la1 ∧ i = .int .i64 (k : Int) ∧ op = .bool (wsA wt k) ∧ Below w.heap.size w wr ∧ w.heap.size < wr.heap.size ∧ wr.cell? ⟨w.heap.size, 1, none⟩ = some (.int .i64 a0_1) ∧ wr.ownsRow (w.heap.size + 1) 2 1 v k ((rowOf (orA wt) k).map (Value.int .i64))) (fun _ _ i _ _ _ => la1 - (intOf i).toNat)
    case atStart => exact ⟨0, by omega, rfl, rfl, (by repeat (first | assumption | exact Below.refl _ _ | (refine Below.trans ?_ (d0.mono (by first | omega | (simp; done) | (simp; omega)))) | (refine Below.setCell ?_ (by first | omega | (simp; done) | (simp; omega)) _) | apply below_drewN | apply Below.drew | (refine Below.alloc ?_ (by first | omega | (simp; done) | (simp; omega)) _))), (by simp;omega), by first | (rw [World.cell?_alloc_lt _ _ _ s0]; exact P1.out) | simpa using P1.out, owns_made rfl s0⟩
    case round =>
      obtain ⟨k, hk, rfl, rfl, hb, hsz, u1, hown⟩ := hrel
      by_cases hlt : k < la1
      · obtain ⟨ab, o, rfl, hbB, hc⟩ := (RA.out.below hb).2 (by omega)
        obtain ⟨ab', o', rfl, hbB', hc'⟩ := (RB.out.below hb).2 (by omega)
        have c1 := hc k hlt
        have c2 := hc' k hlt
        clear hc hc'
        have hW := HW.out k
        have HS := Lib.hid (rowOf_succ (orA wt) k)
        have HO := Lib.hid (show orA wt k = orN (wsA wt k) (wt k) from rfl)
        have HN := Lib.hid (show wsA wt (k + 1) = wt k from rfl)
        have hx := HH.out.2.1 k hlt
        have hy := HH.out.2.2 k hlt
        generalize xa1.getD k 0 = x at *
        generalize xa2.getD k 0 = y at *
        obtain ⟨hx1, hx2⟩ := hx
        obtain ⟨hy1, hy2⟩ := hy
        have f1 := IntWalk.i64_in (x - y) (by omega)
        have hrl := rowOf_len (orA wt) k
        generalize rowOf (orA wt) k = L at *
        generalize orA wt k = ok at *
        generalize wsA wt k = ws at *
        generalize wt k = wk at *
        by_cases g1 : a3 ≤ x - y
        · by_cases g2 : a0_1 < x
          · have q1 : decide (x - y ≥ a3) = true := by simp;omega
            have q2 : decide (x > a0_1) = true := by simp;omega
            obtain rfl : wk = true := by rw [hW]; first | exact decide_eq_true ⟨by omega, by omega⟩ | exact decide_eq_false (by omega)
            clear hW
            cases ws
            all_goals (
              have HO2 := Lib.hid (HO.out.trans (show _ = orN _ _ from rfl))
              go_wp2_with fail
              refine wp_region_held_drew (S := fun w' => w'.cell? ⟨ab, o + k, none⟩ = some (.int .i64 x) ∧ w'.cell? ⟨ab', o' + k, none⟩ = some (.int .i64 y) ∧ w'.cell? ⟨w.heap.size, 1, none⟩ = some (.int .i64 a0_1)) (by kernel_rfl) ⟨c1, c2, u1⟩ (fun hHeld => ?_)
              ((refine wpAnyH_take (i := 0) (oi := ⟨some 37, _, _, _, _, _⟩) (v := ?_) rfl (by kernel_rfl) (by kernel_rfl) (by kernel_rfl) (fun _ _ _ h => h) (Or.inl ⟨by rfl, ?_⟩) (by assumption) ?_; rotate_left 1; (focus (intro w hSw; (try dsimp only at hSw); go_simp <;> try (first | (with_reducible rfl) | (rw [if_neg (by omega)])))); try simp only [Act.put, List.setIfInBounds_toArray, List.set_cons_zero, List.set_cons_succ]); (refine wpAnyH_take (i := 1) (oi := ⟨some 38, _, _, _, _, _⟩) (v := ?_) rfl (by kernel_rfl) (by kernel_rfl) (by kernel_rfl) (fun _ _ _ h => h) (Or.inl ⟨by rfl, ?_⟩) (by assumption) ?_; rotate_left 1; (focus (intro w hSw; (try dsimp only at hSw); go_simp <;> try (first | (with_reducible rfl) | (rw [if_neg (by omega)])))); try simp only [Act.put, List.setIfInBounds_toArray, List.set_cons_zero, List.set_cons_succ]); (refine wpAnyH_take (i := 2) (oi := ⟨some 39, _, _, _, _, _⟩) (v := ?_) rfl (by kernel_rfl) (by kernel_rfl) (by kernel_rfl) (fun _ _ _ h => h) (Or.inl ⟨by rfl, ?_⟩) (by assumption) ?_; rotate_left 1; (focus (intro w hSw; (try dsimp only at hSw); go_simp <;> try (first | (with_reducible rfl) | (rw [if_neg (by omega)])))); try simp only [Act.put, List.setIfInBounds_toArray, List.set_cons_zero, List.set_cons_succ]); (refine wpAnyH_take (i := 3) (oi := ⟨some 40, _, _, _, _, _⟩) (v := ?_) rfl (by kernel_rfl) (by kernel_rfl) (by kernel_rfl) (fun _ _ _ h => h) (Or.inl ⟨by rfl, ?_⟩) (by assumption) ?_; rotate_left 1; (focus (intro w hSw; (try dsimp only at hSw); go_simp <;> try (first | (with_reducible rfl) | (rw [if_neg (by omega)])))); try simp only [Act.put, List.setIfInBounds_toArray, List.set_cons_zero, List.set_cons_succ]); (refine wpAnyH_take (i := 4) (oi := ⟨some 41, _, _, _, _, _⟩) (v := ?_) rfl (by kernel_rfl) (by kernel_rfl) (by kernel_rfl) (fun _ _ _ h => h) (Or.inl ⟨by rfl, ?_⟩) (by assumption) ?_; rotate_left 1; (focus (intro w hSw; (try dsimp only at hSw); go_simp <;> try (first | (with_reducible rfl) | (rw [if_neg (by omega)])))); try simp only [Act.put, List.setIfInBounds_toArray, List.set_cons_zero, List.set_cons_succ]); (refine wpAnyH_take (i := 5) (oi := ⟨some 42, _, _, _, _, _⟩) (v := ?_) rfl (by kernel_rfl) (by kernel_rfl) (by kernel_rfl) (fun _ _ _ h => h) (Or.inl ⟨by rfl, ?_⟩) (by assumption) ?_; rotate_left 1; (focus (intro w hSw; (try dsimp only at hSw); go_simp <;> try (first | (with_reducible rfl) | (rw [if_neg (by omega)])))); try simp only [Act.put, List.setIfInBounds_toArray, List.set_cons_zero, List.set_cons_succ]); (refine wpAnyH_take (i := 6) (oi := ⟨some 43, _, _, _, _, _⟩) (v := ?_) rfl (by kernel_rfl) (by kernel_rfl) (by kernel_rfl) (fun _ _ _ h => h) (Or.inl ⟨by rfl, ?_⟩) (by assumption) ?_; rotate_left 1; (focus (intro w hSw; (try dsimp only at hSw); go_simp <;> try (first | (with_reducible rfl) | (rw [if_neg (by omega)])))); try simp only [Act.put, List.setIfInBounds_toArray, List.set_cons_zero, List.set_cons_succ]); (refine wpAnyH_take (i := 7) (oi := ⟨some 44, _, _, _, _, _⟩) (v := ?_) rfl (by kernel_rfl) (by kernel_rfl) (by kernel_rfl) (fun _ _ _ h => h) (Or.inl ⟨by rfl, ?_⟩) (by assumption) ?_; rotate_left 1; (focus (intro w hSw; (try dsimp only at hSw); go_simp <;> try (first | (with_reducible rfl) | (rw [if_neg (by omega)])))); try simp only [Act.put, List.setIfInBounds_toArray, List.set_cons_zero, List.set_cons_succ]); (refine wpAnyH_take (i := 8) (oi := ⟨some 45, _, _, _, _, _⟩) (v := ?_) rfl (by kernel_rfl) (by kernel_rfl) (by kernel_rfl) (fun _ _ _ h => h) (Or.inl ⟨by rfl, ?_⟩) (by assumption) ?_; rotate_left 1; (focus (intro w hSw; (try dsimp only at hSw); go_simp <;> try (first | (with_reducible rfl) | (rw [if_neg (by omega)])))); try simp only [Act.put, List.setIfInBounds_toArray, List.set_cons_zero, List.set_cons_succ]); (refine wpAnyH_take (i := 9) (oi := ⟨some 46, _, _, _, _, _⟩) (v := ?_) rfl (by kernel_rfl) (by kernel_rfl) (by kernel_rfl) (fun _ _ _ h => h) (Or.inl ⟨by rfl, ?_⟩) (by assumption) ?_; rotate_left 1; (focus (intro w hSw; (try dsimp only at hSw); go_simp <;> try (first | (with_reducible rfl) | (rw [if_neg (by omega)])))); try simp only [Act.put, List.setIfInBounds_toArray, List.set_cons_zero, List.set_cons_succ]); (refine wpAnyH_take (i := 10) (oi := ⟨some 47, _, _, _, _, _⟩) (v := ?_) rfl (by kernel_rfl) (by kernel_rfl) (by kernel_rfl) (fun _ _ _ h => h) (Or.inl ⟨by rfl, ?_⟩) (by assumption) ?_; rotate_left 1; (focus (intro w hSw; (try dsimp only at hSw); go_simp <;> try (first | (with_reducible rfl) | (rw [if_neg (by omega)])))); try simp only [Act.put, List.setIfInBounds_toArray, List.set_cons_zero, List.set_cons_succ]); (refine wpAnyH_take (i := 11) (oi := ⟨some 48, _, _, _, _, _⟩) (v := ?_) rfl (by kernel_rfl) (by kernel_rfl) (by kernel_rfl) (fun _ _ _ h => h) (Or.inl ⟨by rfl, ?_⟩) (by assumption) ?_; rotate_left 1; (focus (intro w hSw; (try dsimp only at hSw); go_simp <;> try (first | (with_reducible rfl) | (rw [if_neg (by omega)])))); try simp only [Act.put, List.setIfInBounds_toArray, List.set_cons_zero, List.set_cons_succ]); (refine wpAnyH_take (i := 12) (oi := ⟨some 49, _, _, _, _, _⟩) (v := ?_) rfl (by kernel_rfl) (by kernel_rfl) (by kernel_rfl) (fun _ _ _ h => h) (Or.inl ⟨by rfl, ?_⟩) (by assumption) ?_; rotate_left 1; (focus (intro w hSw; (try dsimp only at hSw); go_simp <;> try (first | (with_reducible rfl) | (rw [if_neg (by omega)])))); try simp only [Act.put, List.setIfInBounds_toArray, List.set_cons_zero, List.set_cons_succ]); (refine wpAnyH_take (i := 13) (oi := ⟨some 50, _, _, _, _, _⟩) (v := ?_) rfl (by kernel_rfl) (by kernel_rfl) (by kernel_rfl) (fun _ _ _ h => h) (Or.inl ⟨by rfl, ?_⟩) (by assumption) ?_; rotate_left 1; (focus (intro w hSw; (try dsimp only at hSw); go_simp <;> try (first | (with_reducible rfl) | (rw [if_neg (by omega)])))); try simp only [Act.put, List.setIfInBounds_toArray, List.set_cons_zero, List.set_cons_succ]); (refine wpAnyH_take (i := 14) (oi := ⟨some 51, _, _, _, _, _⟩) (v := ?_) rfl (by kernel_rfl) (by kernel_rfl) (by kernel_rfl) (fun _ _ _ h => h) (Or.inl ⟨by rfl, ?_⟩) (by assumption) ?_; rotate_left 1; (focus (intro w hSw; (try dsimp only at hSw); go_simp <;> try (first | (with_reducible rfl) | (rw [if_neg (by omega)])))); try simp only [Act.put, List.setIfInBounds_toArray, List.set_cons_zero, List.set_cons_succ]); (refine wpAnyH_take (i := 15) (oi := ⟨some 52, _, _, _, _, _⟩) (v := ?_) rfl (by kernel_rfl) (by kernel_rfl) (by kernel_rfl) (fun _ _ _ h => h) (Or.inl ⟨by rfl, ?_⟩) (by assumption) ?_; rotate_left 1; (focus (intro w hSw; (try dsimp only at hSw); go_simp <;> try (first | (with_reducible rfl) | (rw [if_neg (by omega)])))); try simp only [Act.put, List.setIfInBounds_toArray, List.set_cons_zero, List.set_cons_succ]); (refine wpAnyH_take (i := 16) (oi := ⟨some 53, _, _, _, _, _⟩) (v := ?_) rfl (by kernel_rfl) (by kernel_rfl) (by kernel_rfl) (fun _ _ _ h => h) (Or.inl ⟨by rfl, ?_⟩) (by assumption) ?_; rotate_left 1; (focus (intro w hSw; (try dsimp only at hSw); go_simp <;> try (first | (with_reducible rfl) | (rw [if_neg (by omega)])))); try simp only [Act.put, List.setIfInBounds_toArray, List.set_cons_zero, List.set_cons_succ]); (refine wpAnyH_take (i := 17) (oi := ⟨some 54, _, _, _, _, _⟩) (v := ?_) rfl (by kernel_rfl) (by kernel_rfl) (by kernel_rfl) (fun _ _ _ h => h) (Or.inl ⟨by rfl, ?_⟩) (by assumption) ?_; rotate_left 1; (focus (intro w hSw; (try dsimp only at hSw); go_simp <;> try (first | (with_reducible rfl) | (rw [if_neg (by omega)])))); try simp only [Act.put, List.setIfInBounds_toArray, List.set_cons_zero, List.set_cons_succ]); (refine wpAnyH_take (i := 18) (oi := ⟨some 55, _, _, _, _, _⟩) (v := ?_) rfl (by kernel_rfl) (by kernel_rfl) (by kernel_rfl) (fun _ _ _ h => h) (Or.inl ⟨by rfl, ?_⟩) (by assumption) ?_; rotate_left 1; (focus (intro w hSw; (try dsimp only at hSw); go_simp <;> try (first | (with_reducible rfl) | (rw [if_neg (by omega)])))); try simp only [Act.put, List.setIfInBounds_toArray, List.set_cons_zero, List.set_cons_succ]); (refine wpAnyH_take (i := 19) (oi := ⟨some 56, _, _, _, _, _⟩) (v := ?_) rfl (by kernel_rfl) (by kernel_rfl) (by kernel_rfl) (fun _ _ _ h => h) (Or.inl ⟨by rfl, ?_⟩) (by assumption) ?_; rotate_left 1; (focus (intro w hSw; (try dsimp only at hSw); go_simp <;> try (first | (with_reducible rfl) | (rw [if_neg (by omega)])))); try simp only [Act.put, List.setIfInBounds_toArray, List.set_cons_zero, List.set_cons_succ]); (refine wpAnyH_take (i := 20) (oi := ⟨some 14, _, _, _, _, _⟩) (v := ?_) rfl (by kernel_rfl) (by kernel_rfl) (by kernel_rfl) (fun _ _ _ h => h) (Or.inl ⟨by rfl, ?_⟩) (by assumption) ?_; rotate_left 1; (focus (intro w hSw; (try dsimp only at hSw); go_simp <;> try (first | (with_reducible rfl) | (rw [if_neg (by omega)])))); try simp only [Act.put, List.setIfInBounds_toArray, List.set_cons_zero, List.set_cons_succ]))
              refine wpAnyH_done (by kernel_rfl) ?_ _
              have hbd : Below w.heap.size w wr.drew := ⟨hb.os, hb.tape, hb.output, hb.size, hb.block⟩
              have hszd : w.heap.size < wr.drew.heap.size := hsz
              have u1d : wr.drew.cell? ⟨w.heap.size, 1, none⟩ = some (.int .i64 a0_1) := u1
              have hownd := hown
              change wr.drew.ownsRow _ _ _ _ _ _ at hownd
              clear c1 c2 u1 hown hb
              generalize wr.drew = wd at hbd hszd u1d hownd ⊢
              go_wp2_with (at_builtin; refine wpl_app1 rfl _ _ rfl _ _ _ _ _ _ rfl (by exact hownd) rfl (by omega) (by omega) ?_; intro v1 w1 hown1 hb1 hz1)
              go_roundw
              case rel => exact ⟨k + 1, by omega, by go_num, by rw [HN.out], hbd.trans (hb1.mono (by omega)), by omega, (hb1.cell (p := ⟨w.heap.size, 1, none⟩) (show w.heap.size < w.heap.size + 1 by omega)).trans u1d, by rw [HS.out, HO.out]; exact hown1⟩
              case measure => simp [intOf];omega)
          · have q1 : decide (x - y ≥ a3) = true := by simp;omega
            have q2 : decide (x > a0_1) = false := by simp;omega
            obtain rfl : wk = false := by rw [hW]; first | exact decide_eq_true ⟨by omega, by omega⟩ | exact decide_eq_false (by omega)
            clear hW
            cases ws
            all_goals (
              have HO2 := Lib.hid (HO.out.trans (show _ = orN _ _ from rfl))
              go_wp2_with fail
              refine wp_region_held_drew (S := fun w' => w'.cell? ⟨ab, o + k, none⟩ = some (.int .i64 x) ∧ w'.cell? ⟨ab', o' + k, none⟩ = some (.int .i64 y) ∧ w'.cell? ⟨w.heap.size, 1, none⟩ = some (.int .i64 a0_1)) (by kernel_rfl) ⟨c1, c2, u1⟩ (fun hHeld => ?_)
              ((refine wpAnyH_take (i := 0) (oi := ⟨some 37, _, _, _, _, _⟩) (v := ?_) rfl (by kernel_rfl) (by kernel_rfl) (by kernel_rfl) (fun _ _ _ h => h) (Or.inl ⟨by rfl, ?_⟩) (by assumption) ?_; rotate_left 1; (focus (intro w hSw; (try dsimp only at hSw); go_simp <;> try (first | (with_reducible rfl) | (rw [if_neg (by omega)])))); try simp only [Act.put, List.setIfInBounds_toArray, List.set_cons_zero, List.set_cons_succ]); (refine wpAnyH_take (i := 1) (oi := ⟨some 38, _, _, _, _, _⟩) (v := ?_) rfl (by kernel_rfl) (by kernel_rfl) (by kernel_rfl) (fun _ _ _ h => h) (Or.inl ⟨by rfl, ?_⟩) (by assumption) ?_; rotate_left 1; (focus (intro w hSw; (try dsimp only at hSw); go_simp <;> try (first | (with_reducible rfl) | (rw [if_neg (by omega)])))); try simp only [Act.put, List.setIfInBounds_toArray, List.set_cons_zero, List.set_cons_succ]); (refine wpAnyH_take (i := 2) (oi := ⟨some 39, _, _, _, _, _⟩) (v := ?_) rfl (by kernel_rfl) (by kernel_rfl) (by kernel_rfl) (fun _ _ _ h => h) (Or.inl ⟨by rfl, ?_⟩) (by assumption) ?_; rotate_left 1; (focus (intro w hSw; (try dsimp only at hSw); go_simp <;> try (first | (with_reducible rfl) | (rw [if_neg (by omega)])))); try simp only [Act.put, List.setIfInBounds_toArray, List.set_cons_zero, List.set_cons_succ]); (refine wpAnyH_take (i := 3) (oi := ⟨some 40, _, _, _, _, _⟩) (v := ?_) rfl (by kernel_rfl) (by kernel_rfl) (by kernel_rfl) (fun _ _ _ h => h) (Or.inl ⟨by rfl, ?_⟩) (by assumption) ?_; rotate_left 1; (focus (intro w hSw; (try dsimp only at hSw); go_simp <;> try (first | (with_reducible rfl) | (rw [if_neg (by omega)])))); try simp only [Act.put, List.setIfInBounds_toArray, List.set_cons_zero, List.set_cons_succ]); (refine wpAnyH_take (i := 4) (oi := ⟨some 41, _, _, _, _, _⟩) (v := ?_) rfl (by kernel_rfl) (by kernel_rfl) (by kernel_rfl) (fun _ _ _ h => h) (Or.inl ⟨by rfl, ?_⟩) (by assumption) ?_; rotate_left 1; (focus (intro w hSw; (try dsimp only at hSw); go_simp <;> try (first | (with_reducible rfl) | (rw [if_neg (by omega)])))); try simp only [Act.put, List.setIfInBounds_toArray, List.set_cons_zero, List.set_cons_succ]); (refine wpAnyH_take (i := 5) (oi := ⟨some 42, _, _, _, _, _⟩) (v := ?_) rfl (by kernel_rfl) (by kernel_rfl) (by kernel_rfl) (fun _ _ _ h => h) (Or.inl ⟨by rfl, ?_⟩) (by assumption) ?_; rotate_left 1; (focus (intro w hSw; (try dsimp only at hSw); go_simp <;> try (first | (with_reducible rfl) | (rw [if_neg (by omega)])))); try simp only [Act.put, List.setIfInBounds_toArray, List.set_cons_zero, List.set_cons_succ]); (refine wpAnyH_take (i := 6) (oi := ⟨some 43, _, _, _, _, _⟩) (v := ?_) rfl (by kernel_rfl) (by kernel_rfl) (by kernel_rfl) (fun _ _ _ h => h) (Or.inl ⟨by rfl, ?_⟩) (by assumption) ?_; rotate_left 1; (focus (intro w hSw; (try dsimp only at hSw); go_simp <;> try (first | (with_reducible rfl) | (rw [if_neg (by omega)])))); try simp only [Act.put, List.setIfInBounds_toArray, List.set_cons_zero, List.set_cons_succ]); (refine wpAnyH_take (i := 7) (oi := ⟨some 44, _, _, _, _, _⟩) (v := ?_) rfl (by kernel_rfl) (by kernel_rfl) (by kernel_rfl) (fun _ _ _ h => h) (Or.inl ⟨by rfl, ?_⟩) (by assumption) ?_; rotate_left 1; (focus (intro w hSw; (try dsimp only at hSw); go_simp <;> try (first | (with_reducible rfl) | (rw [if_neg (by omega)])))); try simp only [Act.put, List.setIfInBounds_toArray, List.set_cons_zero, List.set_cons_succ]); (refine wpAnyH_take (i := 8) (oi := ⟨some 45, _, _, _, _, _⟩) (v := ?_) rfl (by kernel_rfl) (by kernel_rfl) (by kernel_rfl) (fun _ _ _ h => h) (Or.inl ⟨by rfl, ?_⟩) (by assumption) ?_; rotate_left 1; (focus (intro w hSw; (try dsimp only at hSw); go_simp <;> try (first | (with_reducible rfl) | (rw [if_neg (by omega)])))); try simp only [Act.put, List.setIfInBounds_toArray, List.set_cons_zero, List.set_cons_succ]); (refine wpAnyH_take (i := 9) (oi := ⟨some 46, _, _, _, _, _⟩) (v := ?_) rfl (by kernel_rfl) (by kernel_rfl) (by kernel_rfl) (fun _ _ _ h => h) (Or.inl ⟨by rfl, ?_⟩) (by assumption) ?_; rotate_left 1; (focus (intro w hSw; (try dsimp only at hSw); go_simp <;> try (first | (with_reducible rfl) | (rw [if_neg (by omega)])))); try simp only [Act.put, List.setIfInBounds_toArray, List.set_cons_zero, List.set_cons_succ]); (refine wpAnyH_take (i := 10) (oi := ⟨some 47, _, _, _, _, _⟩) (v := ?_) rfl (by kernel_rfl) (by kernel_rfl) (by kernel_rfl) (fun _ _ _ h => h) (Or.inl ⟨by rfl, ?_⟩) (by assumption) ?_; rotate_left 1; (focus (intro w hSw; (try dsimp only at hSw); go_simp <;> try (first | (with_reducible rfl) | (rw [if_neg (by omega)])))); try simp only [Act.put, List.setIfInBounds_toArray, List.set_cons_zero, List.set_cons_succ]); (refine wpAnyH_take (i := 11) (oi := ⟨some 48, _, _, _, _, _⟩) (v := ?_) rfl (by kernel_rfl) (by kernel_rfl) (by kernel_rfl) (fun _ _ _ h => h) (Or.inl ⟨by rfl, ?_⟩) (by assumption) ?_; rotate_left 1; (focus (intro w hSw; (try dsimp only at hSw); go_simp <;> try (first | (with_reducible rfl) | (rw [if_neg (by omega)])))); try simp only [Act.put, List.setIfInBounds_toArray, List.set_cons_zero, List.set_cons_succ]); (refine wpAnyH_take (i := 12) (oi := ⟨some 49, _, _, _, _, _⟩) (v := ?_) rfl (by kernel_rfl) (by kernel_rfl) (by kernel_rfl) (fun _ _ _ h => h) (Or.inl ⟨by rfl, ?_⟩) (by assumption) ?_; rotate_left 1; (focus (intro w hSw; (try dsimp only at hSw); go_simp <;> try (first | (with_reducible rfl) | (rw [if_neg (by omega)])))); try simp only [Act.put, List.setIfInBounds_toArray, List.set_cons_zero, List.set_cons_succ]); (refine wpAnyH_take (i := 13) (oi := ⟨some 50, _, _, _, _, _⟩) (v := ?_) rfl (by kernel_rfl) (by kernel_rfl) (by kernel_rfl) (fun _ _ _ h => h) (Or.inl ⟨by rfl, ?_⟩) (by assumption) ?_; rotate_left 1; (focus (intro w hSw; (try dsimp only at hSw); go_simp <;> try (first | (with_reducible rfl) | (rw [if_neg (by omega)])))); try simp only [Act.put, List.setIfInBounds_toArray, List.set_cons_zero, List.set_cons_succ]); (refine wpAnyH_take (i := 14) (oi := ⟨some 51, _, _, _, _, _⟩) (v := ?_) rfl (by kernel_rfl) (by kernel_rfl) (by kernel_rfl) (fun _ _ _ h => h) (Or.inl ⟨by rfl, ?_⟩) (by assumption) ?_; rotate_left 1; (focus (intro w hSw; (try dsimp only at hSw); go_simp <;> try (first | (with_reducible rfl) | (rw [if_neg (by omega)])))); try simp only [Act.put, List.setIfInBounds_toArray, List.set_cons_zero, List.set_cons_succ]); (refine wpAnyH_take (i := 15) (oi := ⟨some 52, _, _, _, _, _⟩) (v := ?_) rfl (by kernel_rfl) (by kernel_rfl) (by kernel_rfl) (fun _ _ _ h => h) (Or.inl ⟨by rfl, ?_⟩) (by assumption) ?_; rotate_left 1; (focus (intro w hSw; (try dsimp only at hSw); go_simp <;> try (first | (with_reducible rfl) | (rw [if_neg (by omega)])))); try simp only [Act.put, List.setIfInBounds_toArray, List.set_cons_zero, List.set_cons_succ]); (refine wpAnyH_take (i := 16) (oi := ⟨some 53, _, _, _, _, _⟩) (v := ?_) rfl (by kernel_rfl) (by kernel_rfl) (by kernel_rfl) (fun _ _ _ h => h) (Or.inl ⟨by rfl, ?_⟩) (by assumption) ?_; rotate_left 1; (focus (intro w hSw; (try dsimp only at hSw); go_simp <;> try (first | (with_reducible rfl) | (rw [if_neg (by omega)])))); try simp only [Act.put, List.setIfInBounds_toArray, List.set_cons_zero, List.set_cons_succ]); (refine wpAnyH_take (i := 17) (oi := ⟨some 54, _, _, _, _, _⟩) (v := ?_) rfl (by kernel_rfl) (by kernel_rfl) (by kernel_rfl) (fun _ _ _ h => h) (Or.inl ⟨by rfl, ?_⟩) (by assumption) ?_; rotate_left 1; (focus (intro w hSw; (try dsimp only at hSw); go_simp <;> try (first | (with_reducible rfl) | (rw [if_neg (by omega)])))); try simp only [Act.put, List.setIfInBounds_toArray, List.set_cons_zero, List.set_cons_succ]); (refine wpAnyH_take (i := 18) (oi := ⟨some 55, _, _, _, _, _⟩) (v := ?_) rfl (by kernel_rfl) (by kernel_rfl) (by kernel_rfl) (fun _ _ _ h => h) (Or.inl ⟨by rfl, ?_⟩) (by assumption) ?_; rotate_left 1; (focus (intro w hSw; (try dsimp only at hSw); go_simp <;> try (first | (with_reducible rfl) | (rw [if_neg (by omega)])))); try simp only [Act.put, List.setIfInBounds_toArray, List.set_cons_zero, List.set_cons_succ]); (refine wpAnyH_take (i := 19) (oi := ⟨some 56, _, _, _, _, _⟩) (v := ?_) rfl (by kernel_rfl) (by kernel_rfl) (by kernel_rfl) (fun _ _ _ h => h) (Or.inl ⟨by rfl, ?_⟩) (by assumption) ?_; rotate_left 1; (focus (intro w hSw; (try dsimp only at hSw); go_simp <;> try (first | (with_reducible rfl) | (rw [if_neg (by omega)])))); try simp only [Act.put, List.setIfInBounds_toArray, List.set_cons_zero, List.set_cons_succ]); (refine wpAnyH_take (i := 20) (oi := ⟨some 14, _, _, _, _, _⟩) (v := ?_) rfl (by kernel_rfl) (by kernel_rfl) (by kernel_rfl) (fun _ _ _ h => h) (Or.inl ⟨by rfl, ?_⟩) (by assumption) ?_; rotate_left 1; (focus (intro w hSw; (try dsimp only at hSw); go_simp <;> try (first | (with_reducible rfl) | (rw [if_neg (by omega)])))); try simp only [Act.put, List.setIfInBounds_toArray, List.set_cons_zero, List.set_cons_succ]))
              refine wpAnyH_done (by kernel_rfl) ?_ _
              have hbd : Below w.heap.size w wr.drew := ⟨hb.os, hb.tape, hb.output, hb.size, hb.block⟩
              have hszd : w.heap.size < wr.drew.heap.size := hsz
              have u1d : wr.drew.cell? ⟨w.heap.size, 1, none⟩ = some (.int .i64 a0_1) := u1
              have hownd := hown
              change wr.drew.ownsRow _ _ _ _ _ _ at hownd
              clear c1 c2 u1 hown hb
              generalize wr.drew = wd at hbd hszd u1d hownd ⊢
              go_wp2_with (at_builtin; refine wpl_app1 rfl _ _ rfl _ _ _ _ _ _ rfl (by exact hownd) rfl (by omega) (by omega) ?_; intro v1 w1 hown1 hb1 hz1)
              go_roundw
              case rel => exact ⟨k + 1, by omega, by go_num, by rw [HN.out], hbd.trans (hb1.mono (by omega)), by omega, (hb1.cell (p := ⟨w.heap.size, 1, none⟩) (show w.heap.size < w.heap.size + 1 by omega)).trans u1d, by rw [HS.out, HO.out]; exact hown1⟩
              case measure => simp [intOf];omega)
        · have q1 : decide (x - y ≥ a3) = false := by simp;omega
          obtain rfl : wk = false := by rw [hW]; first | exact decide_eq_true ⟨by omega, by omega⟩ | exact decide_eq_false (by omega)
          clear hW
          cases ws
          all_goals (
            have HO2 := Lib.hid (HO.out.trans (show _ = orN _ _ from rfl))
            go_wp2_with fail
            refine wp_region_held_drew (S := fun w' => w'.cell? ⟨ab, o + k, none⟩ = some (.int .i64 x) ∧ w'.cell? ⟨ab', o' + k, none⟩ = some (.int .i64 y) ∧ w'.cell? ⟨w.heap.size, 1, none⟩ = some (.int .i64 a0_1)) (by kernel_rfl) ⟨c1, c2, u1⟩ (fun hHeld => ?_)
            ((refine wpAnyH_take (i := 0) (oi := ⟨some 37, _, _, _, _, _⟩) (v := ?_) rfl (by kernel_rfl) (by kernel_rfl) (by kernel_rfl) (fun _ _ _ h => h) (Or.inl ⟨by rfl, ?_⟩) (by assumption) ?_; rotate_left 1; (focus (intro w hSw; (try dsimp only at hSw); go_simp <;> try (first | (with_reducible rfl) | (rw [if_neg (by omega)])))); try simp only [Act.put, List.setIfInBounds_toArray, List.set_cons_zero, List.set_cons_succ]); (refine wpAnyH_take (i := 1) (oi := ⟨some 38, _, _, _, _, _⟩) (v := ?_) rfl (by kernel_rfl) (by kernel_rfl) (by kernel_rfl) (fun _ _ _ h => h) (Or.inl ⟨by rfl, ?_⟩) (by assumption) ?_; rotate_left 1; (focus (intro w hSw; (try dsimp only at hSw); go_simp <;> try (first | (with_reducible rfl) | (rw [if_neg (by omega)])))); try simp only [Act.put, List.setIfInBounds_toArray, List.set_cons_zero, List.set_cons_succ]); (refine wpAnyH_take (i := 2) (oi := ⟨some 39, _, _, _, _, _⟩) (v := ?_) rfl (by kernel_rfl) (by kernel_rfl) (by kernel_rfl) (fun _ _ _ h => h) (Or.inl ⟨by rfl, ?_⟩) (by assumption) ?_; rotate_left 1; (focus (intro w hSw; (try dsimp only at hSw); go_simp <;> try (first | (with_reducible rfl) | (rw [if_neg (by omega)])))); try simp only [Act.put, List.setIfInBounds_toArray, List.set_cons_zero, List.set_cons_succ]); (refine wpAnyH_take (i := 3) (oi := ⟨some 40, _, _, _, _, _⟩) (v := ?_) rfl (by kernel_rfl) (by kernel_rfl) (by kernel_rfl) (fun _ _ _ h => h) (Or.inl ⟨by rfl, ?_⟩) (by assumption) ?_; rotate_left 1; (focus (intro w hSw; (try dsimp only at hSw); go_simp <;> try (first | (with_reducible rfl) | (rw [if_neg (by omega)])))); try simp only [Act.put, List.setIfInBounds_toArray, List.set_cons_zero, List.set_cons_succ]); (refine wpAnyH_take (i := 4) (oi := ⟨some 41, _, _, _, _, _⟩) (v := ?_) rfl (by kernel_rfl) (by kernel_rfl) (by kernel_rfl) (fun _ _ _ h => h) (Or.inl ⟨by rfl, ?_⟩) (by assumption) ?_; rotate_left 1; (focus (intro w hSw; (try dsimp only at hSw); go_simp <;> try (first | (with_reducible rfl) | (rw [if_neg (by omega)])))); try simp only [Act.put, List.setIfInBounds_toArray, List.set_cons_zero, List.set_cons_succ]); (refine wpAnyH_take (i := 5) (oi := ⟨some 42, _, _, _, _, _⟩) (v := ?_) rfl (by kernel_rfl) (by kernel_rfl) (by kernel_rfl) (fun _ _ _ h => h) (Or.inl ⟨by rfl, ?_⟩) (by assumption) ?_; rotate_left 1; (focus (intro w hSw; (try dsimp only at hSw); go_simp <;> try (first | (with_reducible rfl) | (rw [if_neg (by omega)])))); try simp only [Act.put, List.setIfInBounds_toArray, List.set_cons_zero, List.set_cons_succ]); (refine wpAnyH_take (i := 6) (oi := ⟨some 43, _, _, _, _, _⟩) (v := ?_) rfl (by kernel_rfl) (by kernel_rfl) (by kernel_rfl) (fun _ _ _ h => h) (Or.inl ⟨by rfl, ?_⟩) (by assumption) ?_; rotate_left 1; (focus (intro w hSw; (try dsimp only at hSw); go_simp <;> try (first | (with_reducible rfl) | (rw [if_neg (by omega)])))); try simp only [Act.put, List.setIfInBounds_toArray, List.set_cons_zero, List.set_cons_succ]); (refine wpAnyH_take (i := 7) (oi := ⟨some 44, _, _, _, _, _⟩) (v := ?_) rfl (by kernel_rfl) (by kernel_rfl) (by kernel_rfl) (fun _ _ _ h => h) (Or.inl ⟨by rfl, ?_⟩) (by assumption) ?_; rotate_left 1; (focus (intro w hSw; (try dsimp only at hSw); go_simp <;> try (first | (with_reducible rfl) | (rw [if_neg (by omega)])))); try simp only [Act.put, List.setIfInBounds_toArray, List.set_cons_zero, List.set_cons_succ]); (refine wpAnyH_take (i := 8) (oi := ⟨some 45, _, _, _, _, _⟩) (v := ?_) rfl (by kernel_rfl) (by kernel_rfl) (by kernel_rfl) (fun _ _ _ h => h) (Or.inl ⟨by rfl, ?_⟩) (by assumption) ?_; rotate_left 1; (focus (intro w hSw; (try dsimp only at hSw); go_simp <;> try (first | (with_reducible rfl) | (rw [if_neg (by omega)])))); try simp only [Act.put, List.setIfInBounds_toArray, List.set_cons_zero, List.set_cons_succ]); (refine wpAnyH_take (i := 9) (oi := ⟨some 46, _, _, _, _, _⟩) (v := ?_) rfl (by kernel_rfl) (by kernel_rfl) (by kernel_rfl) (fun _ _ _ h => h) (Or.inl ⟨by rfl, ?_⟩) (by assumption) ?_; rotate_left 1; (focus (intro w hSw; (try dsimp only at hSw); go_simp <;> try (first | (with_reducible rfl) | (rw [if_neg (by omega)])))); try simp only [Act.put, List.setIfInBounds_toArray, List.set_cons_zero, List.set_cons_succ]); (refine wpAnyH_take (i := 10) (oi := ⟨some 47, _, _, _, _, _⟩) (v := ?_) rfl (by kernel_rfl) (by kernel_rfl) (by kernel_rfl) (fun _ _ _ h => h) (Or.inl ⟨by rfl, ?_⟩) (by assumption) ?_; rotate_left 1; (focus (intro w hSw; (try dsimp only at hSw); go_simp <;> try (first | (with_reducible rfl) | (rw [if_neg (by omega)])))); try simp only [Act.put, List.setIfInBounds_toArray, List.set_cons_zero, List.set_cons_succ]); (refine wpAnyH_take (i := 11) (oi := ⟨some 48, _, _, _, _, _⟩) (v := ?_) rfl (by kernel_rfl) (by kernel_rfl) (by kernel_rfl) (fun _ _ _ h => h) (Or.inl ⟨by rfl, ?_⟩) (by assumption) ?_; rotate_left 1; (focus (intro w hSw; (try dsimp only at hSw); go_simp <;> try (first | (with_reducible rfl) | (rw [if_neg (by omega)])))); try simp only [Act.put, List.setIfInBounds_toArray, List.set_cons_zero, List.set_cons_succ]); (refine wpAnyH_take (i := 12) (oi := ⟨some 49, _, _, _, _, _⟩) (v := undef) rfl (by kernel_rfl) (by kernel_rfl) (by kernel_rfl) (fun _ _ _ h => h) (Or.inr ⟨by rfl, rfl⟩) (by assumption) ?_; try simp only [Act.put, List.setIfInBounds_toArray, List.set_cons_zero, List.set_cons_succ]); (refine wpAnyH_take (i := 13) (oi := ⟨some 50, _, _, _, _, _⟩) (v := undef) rfl (by kernel_rfl) (by kernel_rfl) (by kernel_rfl) (fun _ _ _ h => h) (Or.inr ⟨by rfl, rfl⟩) (by assumption) ?_; try simp only [Act.put, List.setIfInBounds_toArray, List.set_cons_zero, List.set_cons_succ]); (refine wpAnyH_take (i := 14) (oi := ⟨some 51, _, _, _, _, _⟩) (v := undef) rfl (by kernel_rfl) (by kernel_rfl) (by kernel_rfl) (fun _ _ _ h => h) (Or.inr ⟨by rfl, rfl⟩) (by assumption) ?_; try simp only [Act.put, List.setIfInBounds_toArray, List.set_cons_zero, List.set_cons_succ]); (refine wpAnyH_take (i := 15) (oi := ⟨some 52, _, _, _, _, _⟩) (v := undef) rfl (by kernel_rfl) (by kernel_rfl) (by kernel_rfl) (fun _ _ _ h => h) (Or.inr ⟨by rfl, rfl⟩) (by assumption) ?_; try simp only [Act.put, List.setIfInBounds_toArray, List.set_cons_zero, List.set_cons_succ]); (refine wpAnyH_take (i := 16) (oi := ⟨some 53, _, _, _, _, _⟩) (v := undef) rfl (by kernel_rfl) (by kernel_rfl) (by kernel_rfl) (fun _ _ _ h => h) (Or.inr ⟨by rfl, rfl⟩) (by assumption) ?_; try simp only [Act.put, List.setIfInBounds_toArray, List.set_cons_zero, List.set_cons_succ]); (refine wpAnyH_take (i := 17) (oi := ⟨some 54, _, _, _, _, _⟩) (v := undef) rfl (by kernel_rfl) (by kernel_rfl) (by kernel_rfl) (fun _ _ _ h => h) (Or.inr ⟨by rfl, rfl⟩) (by assumption) ?_; try simp only [Act.put, List.setIfInBounds_toArray, List.set_cons_zero, List.set_cons_succ]); (refine wpAnyH_take (i := 18) (oi := ⟨some 55, _, _, _, _, _⟩) (v := undef) rfl (by kernel_rfl) (by kernel_rfl) (by kernel_rfl) (fun _ _ _ h => h) (Or.inr ⟨by rfl, rfl⟩) (by assumption) ?_; try simp only [Act.put, List.setIfInBounds_toArray, List.set_cons_zero, List.set_cons_succ]); (refine wpAnyH_take (i := 19) (oi := ⟨some 56, _, _, _, _, _⟩) (v := ?_) rfl (by kernel_rfl) (by kernel_rfl) (by kernel_rfl) (fun _ _ _ h => h) (Or.inl ⟨by rfl, ?_⟩) (by assumption) ?_; rotate_left 1; (focus (intro w hSw; (try dsimp only at hSw); go_simp <;> try (first | (with_reducible rfl) | (rw [if_neg (by omega)])))); try simp only [Act.put, List.setIfInBounds_toArray, List.set_cons_zero, List.set_cons_succ]); (refine wpAnyH_take (i := 20) (oi := ⟨some 14, _, _, _, _, _⟩) (v := ?_) rfl (by kernel_rfl) (by kernel_rfl) (by kernel_rfl) (fun _ _ _ h => h) (Or.inl ⟨by rfl, ?_⟩) (by assumption) ?_; rotate_left 1; (focus (intro w hSw; (try dsimp only at hSw); go_simp <;> try (first | (with_reducible rfl) | (rw [if_neg (by omega)])))); try simp only [Act.put, List.setIfInBounds_toArray, List.set_cons_zero, List.set_cons_succ]))
            refine wpAnyH_done (by kernel_rfl) ?_ _
            have hbd : Below w.heap.size w wr.drew := ⟨hb.os, hb.tape, hb.output, hb.size, hb.block⟩
            have hszd : w.heap.size < wr.drew.heap.size := hsz
            have u1d : wr.drew.cell? ⟨w.heap.size, 1, none⟩ = some (.int .i64 a0_1) := u1
            have hownd := hown
            change wr.drew.ownsRow _ _ _ _ _ _ at hownd
            clear c1 c2 u1 hown hb
            generalize wr.drew = wd at hbd hszd u1d hownd ⊢
            go_wp2_with (at_builtin; refine wpl_app1 rfl _ _ rfl _ _ _ _ _ _ rfl (by exact hownd) rfl (by omega) (by omega) ?_; intro v1 w1 hown1 hb1 hz1)
            go_roundw
            case rel => exact ⟨k + 1, by omega, by go_num, by rw [HN.out], hbd.trans (hb1.mono (by omega)), by omega, (hb1.cell (p := ⟨w.heap.size, 1, none⟩) (show w.heap.size < w.heap.size + 1 by omega)).trans u1d, by rw [HS.out, HO.out]; exact hown1⟩
            case measure => simp [intOf];omega)
      · obtain rfl : k = la1 := by omega
        go_wp2
        obtain ⟨B, d, rfl, hw⟩ := own_wr hown
        go_ret2
        exact ⟨B, d, rfl, hb, hw.lower (by omega)⟩
  · have e0 : r0_OrdersFor a0_0 a0_1 xa1 xa2 a3 = [] := by unfold r0_OrdersFor; rw [if_neg h]
    rw [e0]
    by_cases h2 : slOk a0_0 a0_1 ∧ hrOk la1 la2 xa1 xa2
    · have hm : a3 < 1 ∨ 4000 < a3 := by
        by_cases q : 1 ≤ a3 ∧ a3 ≤ 4000
        · exact absurd ⟨h2.1, by rw [hl1, hl2]; exact h2.2, q⟩ h
        · omega
      have e1 : r1_OrdersFor a0_0 a0_1 xa1 xa2 a3 = 2 := sc3_no h2.1 (fun g => h ⟨h2.1, g⟩)
      have HC := Lib.hid (show (0 : Int) = sc3 (slOk a0_0 a0_1) (hrOk la1 la2 xa1 xa2) from (sc3_ok h2.1 h2.2).symm)
      rw [e1]
      clear h h2 e0 e1
      go_enter Try.func24, Try.ntmps24
      go_wp2_with (first | (go_at_call 52; refine (l09Series_t _ _ _ _ _ _ _ _ xa1 xa2 _ ha1 ha2 ((RA.out.below (by repeat (first | assumption | exact Below.refl _ _ | (refine Below.setCell ?_ (by first | omega | (simp; done) | (simp; omega)) _) | apply below_drewN | apply Below.drew | (refine Below.alloc ?_ (by first | omega | (simp; done) | (simp; omega)) _)))).mono (by first | omega | (simp; done) | (simp; omega))) ((RB.out.below (by repeat (first | assumption | exact Below.refl _ _ | (refine Below.setCell ?_ (by first | omega | (simp; done) | (simp; omega)) _) | apply below_drewN | apply Below.drew | (refine Below.alloc ?_ (by first | omega | (simp; done) | (simp; omega)) _)))).mono (by first | omega | (simp; done) | (simp; omega))) 0 HC.out).mono ?_; rintro eo w0 ⟨rfl, b0⟩) | (go_at_call 46; first | (refine (in_t _ _ _ _ (by omega)).mono ?_; rintro e w' ⟨rfl, rfl⟩) | (refine (in_f _ _ _ _ (by omega)).mono ?_; rintro e w' ⟨rfl, rfl⟩)))
      go_ret2
      exact ⟨none, 0, rfl, (by repeat (first | assumption | exact Below.refl _ _ | (refine Below.trans ?_ (b0.mono (by first | omega | (simp; done) | (simp; omega)))) | (refine Below.setCell ?_ (by first | omega | (simp; done) | (simp; omega)) _) | apply below_drewN | apply Below.drew | (refine Below.alloc ?_ (by first | omega | (simp; done) | (simp; omega)) _))), rfl, fun h => absurd h (by simp)⟩
    · have e1 : r1_OrdersFor a0_0 a0_1 xa1 xa2 a3 = sc3 (slOk a0_0 a0_1) (hrOk la1 la2 xa1 xa2) := by
        unfold r1_OrdersFor sc3
        by_cases q : slOk a0_0 a0_1
        · rw [if_pos q, if_pos q, if_neg (fun g => h ⟨q, g⟩), if_neg (fun g => h2 ⟨q, g⟩)]
        · rw [if_neg q, if_neg q]
      have e2 := sc3_ne h2
      rw [← e1] at e2
      generalize r1_OrdersFor a0_0 a0_1 xa1 xa2 a3 = C at *
      have HC := Lib.hid e1
      have e4 : (C != 0) = true := by simpa using e2
      clear h h2 e0 e1
      go_enter Try.func24, Try.ntmps24
      go_wp2_with (first | (go_at_call 52; refine (l09Series_t _ _ _ _ _ _ _ _ xa1 xa2 _ ha1 ha2 ((RA.out.below (by repeat (first | assumption | exact Below.refl _ _ | (refine Below.setCell ?_ (by first | omega | (simp; done) | (simp; omega)) _) | apply below_drewN | apply Below.drew | (refine Below.alloc ?_ (by first | omega | (simp; done) | (simp; omega)) _)))).mono (by first | omega | (simp; done) | (simp; omega))) ((RB.out.below (by repeat (first | assumption | exact Below.refl _ _ | (refine Below.setCell ?_ (by first | omega | (simp; done) | (simp; omega)) _) | apply below_drewN | apply Below.drew | (refine Below.alloc ?_ (by first | omega | (simp; done) | (simp; omega)) _)))).mono (by first | omega | (simp; done) | (simp; omega))) C HC.out).mono ?_; rintro eo w0 ⟨rfl, b0⟩) | (go_at_call 46; first | (refine (in_t _ _ _ _ (by omega)).mono ?_; rintro e w' ⟨rfl, rfl⟩) | (refine (in_f _ _ _ _ (by omega)).mono ?_; rintro e w' ⟨rfl, rfl⟩)))
      exact bodyPost_ret (v := .tuple #[.slice none 0 0, .int .i64 C]) (by simp [results, Try.results24, go_sem]) rfl ⟨none, 0, rfl, (by repeat (first | assumption | exact Below.refl _ _ | (refine Below.trans ?_ (b0.mono (by first | omega | (simp; done) | (simp; omega)))) | (refine Below.setCell ?_ (by first | omega | (simp; done) | (simp; omega)) _) | apply below_drewN | apply Below.drew | (refine Below.alloc ?_ (by first | omega | (simp; done) | (simp; omega)) _))), rfl, fun h => absurd h (by simp)⟩

structure OrI (V : World) (n : Nat) (s : Bool × (Nat → Int)) (W : World) : Prop where
  E : Below V.heap.size V W
  size : V.heap.size + 5 ≤ W.heap.size
  cb : W.cell? ⟨V.heap.size + 1, 0, none⟩ = some (.slice (some ⟨V.heap.size, 0, none⟩) n n)
  cw : W.cell? ⟨V.heap.size + 1 + 1, 0, none⟩ = some (.bool s.1)
  fw : W.frozen? ⟨V.heap.size + 1 + 1, 0, none⟩ = false
  row : ∀ j, j < n → W.cell? ⟨V.heap.size, j, none⟩ = some (.int .i64 (s.2 j)) ∧ W.frozen? ⟨V.heap.size, j, none⟩ = false
theorem OrI.own {V : World} {n : Nat} {s : Bool × (Nat → Int)} {W W' : World} {row : Option Nat} (h : OrI V n s W) (hg : W.grownBy W' row) (hr : ∀ r, row = some r → V.heap.size ≤ r ∧ ∃ o : Obj, W.heap[r]? = some o ∧ o.isCells = false) : OrI V n s W' :=
  have hr' := fun r e => (hr r e).2
  ⟨h.E.grown hg h.E.size (fun k e => (hr k e).1), Nat.le_trans h.size hg.size, cell_kept h.cb hg hr', cell_kept h.cw hg hr', (frozen_kept h.cw hg hr').trans h.fw, fun j hj => ⟨cell_kept (h.row j hj).1 hg hr', (frozen_kept (h.row j hj).1 hg hr').trans (h.row j hj).2⟩⟩
theorem OrI.below {V : World} {n : Nat} {s : Bool × (Nat → Int)} {W W' : World} (h : OrI V n s W) (hb : Below (V.heap.size + 5) W W') : OrI V n s W' :=
  ⟨h.E.trans (hb.mono (by omega)), Nat.le_trans h.size hb.size, (hb.cell (p := ⟨V.heap.size + 1, 0, none⟩) (show V.heap.size + 1 < _ by omega)).trans h.cb, (hb.cell (p := ⟨V.heap.size + 1 + 1, 0, none⟩) (show V.heap.size + 1 + 1 < _ by omega)).trans h.cw, (hb.frozen (p := ⟨V.heap.size + 1 + 1, 0, none⟩) (show V.heap.size + 1 + 1 < _ by omega)).trans h.fw,
   fun j hj => ⟨(hb.cell (p := ⟨V.heap.size, j, none⟩) (show V.heap.size < _ by omega)).trans (h.row j hj).1, (hb.frozen (p := ⟨V.heap.size, j, none⟩) (show V.heap.size < _ by omega)).trans (h.row j hj).2⟩⟩
theorem OrI.set {V : World} {n : Nat} {s : Bool × (Nat → Int)} {W : World} (h : OrI V n s W) {k : Nat} (hk : k < n) (v : Int) (wk : Bool) : OrI V n (wk, fun j => if j = k then v else s.2 j) ((W.setCell ⟨V.heap.size, k, none⟩ (.int .i64 v)).setCell ⟨V.heap.size + 1 + 1, 0, none⟩ (.bool wk)) := by
  have n1 : (⟨V.heap.size, k, none⟩ : Addr) ≠ ⟨V.heap.size + 1, 0, none⟩ := fun g => by injection g with g;omega
  have n2 : (⟨V.heap.size, k, none⟩ : Addr) ≠ ⟨V.heap.size + 1 + 1, 0, none⟩ := fun g => by injection g with g;omega
  have n3 : (⟨V.heap.size + 1 + 1, 0, none⟩ : Addr) ≠ ⟨V.heap.size + 1, 0, none⟩ := fun g => by injection g with g;omega
  refine ⟨(h.E.setCell (p := ⟨V.heap.size, k, none⟩) (Nat.le_refl _) _).setCell (p := ⟨V.heap.size + 1 + 1, 0, none⟩) (show V.heap.size ≤ V.heap.size + 1 + 1 by omega) _, Nat.le_trans h.size (by simp [World.setCell]), ?_, ?_, by simpa using h.fw, fun j hj => ⟨?_, by simpa using (h.row j hj).2⟩⟩
  · rw [World.cell?_setCell_other _ _ _ _ n3, World.cell?_setCell_other _ _ _ _ n1]; exact h.cb
  · exact World.cell?_setCell_same _ _ _ ((World.cell?_setCell_other _ _ _ _ n2).trans h.cw)
  · have n4 : (⟨V.heap.size + 1 + 1, 0, none⟩ : Addr) ≠ ⟨V.heap.size, j, none⟩ := fun g => by injection g with g;omega
    rw [World.cell?_setCell_other _ _ _ _ n4]
    by_cases e : j = k
    · subst e
      show _ = some (Value.int .i64 (if j = j then v else s.2 j))
      rw [World.cell?_setCell_same _ _ _ (h.row j hj).1, if_pos rfl]
    · show _ = some (Value.int .i64 (if j = k then v else s.2 j))
      rw [World.cell?_setCell_other _ _ _ _ (fun g => e (by injection g with _ g2; exact g2.symm)), (h.row j hj).1, if_neg e]

attribute [local go_sem] Oper.semAt_some
set_option maxRecDepth 100000 in
set_option maxHeartbeats 12800000 in
theorem orders_impl (wd sl mg : Int) (A A' : Option Addr) (n c c' : Nat) (xs ys : List Int) (w : World) (hs : slOk wd sl) (hh : hrOk n n xs ys) (hm : mgOk mg) (ha : Rd w w.heap.size A n xs) (hb : Rd w w.heap.size A' n ys) :
    Calls Try.prog 25 #[.agg #[.int .i64 wd, .int .i64 sl], .slice A n c, .slice A' n c', .int .i64 mg] w fun e w' => ∃ B d, e = .returned (.tuple #[.slice B n d, .int .i64 0]) ∧ Below w.heap.size w w' ∧ Wr w' w.heap.size B n (rowOf (orA (wtA sl mg xs ys)) n) := by
  have HV := Lib.hid (show true = decide (slOk wd sl) from (decide_eq_true hs).symm)
  have HR := Lib.hid (show true = decide (hrOk n n xs ys) from (decide_eq_true hh).symm)
  have HX := Lib.hid hh.2.1
  have HY := Lib.hid hh.2.2
  have hn := hh.1.2
  have hn1 : n ≤ 1048576 := by omega
  have HA := Lib.hid ha
  have HB := Lib.hid hb
  obtain ⟨hm1, hm2⟩ := hm
  obtain ⟨i0, hi, hz0, hz1, hz2⟩ := info_parts info_i64
  have hmk := fun W => run_make_rowN (P := Try.prog) 37 2 i0 (.int .i64 0) Try.underlying37 hi hz0 .i64 .i64 n n (Nat.le_refl _) (by rw [hz2];omega) (by omega) W
  rw [hz1] at hmk
  clear hi hz0 hz1 hz2 hs hh ha hb
  have hmx : Try.prog.follows .mixedOrders = true := by kernel_rfl
  refine (callsIn_wide (n := 9)).1 ?_
  refine callsIn_of_wp_marks Try.func25 rfl trivial ?_ rfl
  simp only [Try.ntmps25, List.size_toArray, List.length_cons, List.length_nil, Nat.reduceAdd, Nat.reduceSub, Array.replicate_succ, Array.replicate_zero, List.push_toArray, List.append_toArray, List.nil_append, List.cons_append]
  gi_wp2_with (first | (refine ⟨trivial, ?_⟩; gi_at_call 53; refine (callsIn_wide.2 (areHours_any _ _ _ _ _ _ xs ys _ hn1 hn1 ((HA.out.below (by repeat (first | assumption | exact Below.refl _ _ | (refine Below.setCell ?_ (by first | omega | (simp; done) | (simp; omega)) _) | apply below_drewN | apply Below.drew | (refine Below.alloc ?_ (by first | omega | (simp; done) | (simp; omega)) _)))).mono (by first | omega | (simp; done) | (simp; omega))) ((HB.out.below (by repeat (first | assumption | exact Below.refl _ _ | (refine Below.setCell ?_ (by first | omega | (simp; done) | (simp; omega)) _) | apply below_drewN | apply Below.drew | (refine Below.alloc ?_ (by first | omega | (simp; done) | (simp; omega)) _)))).mono (by first | omega | (simp; done) | (simp; omega))) true HR.out)).mono ?_; rintro e1 W1 ⟨rfl, b1⟩; obtain ⟨k1, f1⟩ := bcell b1; have x0 : W1.cell? ⟨w.heap.size, 0, none⟩ = some (.int .i64 wd) := (by rw [k1 _ _ (by first | omega | (simp; done) | (simp; omega))]; first | (simp; done) | go_simp); have xf0 : W1.frozen? ⟨w.heap.size, 0, none⟩ = false := (by rw [f1 _ _ (by first | omega | (simp; done) | (simp; omega))]; first | (simp; done) | go_simp); have x1 : W1.cell? ⟨w.heap.size, 1, none⟩ = some (.int .i64 sl) := (by rw [k1 _ _ (by first | omega | (simp; done) | (simp; omega))]; first | (simp; done) | go_simp); have xf1 : W1.frozen? ⟨w.heap.size, 1, none⟩ = false := (by rw [f1 _ _ (by first | omega | (simp; done) | (simp; omega))]; first | (simp; done) | go_simp); have y0 : W1.cell? ⟨w.heap.size + 1, 0, none⟩ = some (.int .i64 mg) := (by rw [k1 _ _ (by first | omega | (simp; done) | (simp; omega))]; first | (simp; done) | go_simp); have yf0 : W1.frozen? ⟨w.heap.size + 1, 0, none⟩ = false := (by rw [f1 _ _ (by first | omega | (simp; done) | (simp; omega))]; first | (simp; done) | go_simp); have d1 : Below w.heap.size w W1 := (by repeat (first | assumption | exact Below.refl _ _ | (refine Below.trans ?_ (b1.mono (by first | omega | (simp; done) | (simp; omega)))) | (refine Below.setCell ?_ (by first | omega | (simp; done) | (simp; omega)) _) | apply below_drewN | apply Below.drew | (refine Below.alloc ?_ (by first | omega | (simp; done) | (simp; omega)) _))); have s1 : w.heap.size < W1.heap.size := (by have := b1.size; (try simp at this);omega); have s1' : w.heap.size + 1 < W1.heap.size := (by have := b1.size; (try simp at this);omega); clear k1 f1 b1) | (refine ⟨trivial, ?_⟩; gi_at_call 55; refine (callsIn_wide.2 (within_t _ _ _ _ (by omega))).mono ?_; rintro e2 w2 ⟨rfl, rfl⟩) | (refine ⟨trivial, ?_⟩; gi_at_call 41; refine (callsIn_wide.2 (sluI_any _ _ _ _ HV.out)).mono ?_; rintro e3 V ⟨rfl, b3⟩; have p0 : V.cell? ⟨w.heap.size, 0, none⟩ = _ := (b3.cell (p := ⟨w.heap.size, 0, none⟩) (show w.heap.size < _ from (by first | omega | (simp; done) | (simp; omega)))).trans x0; have pf0 : V.frozen? ⟨w.heap.size, 0, none⟩ = _ := (b3.frozen (p := ⟨w.heap.size, 0, none⟩) (show w.heap.size < _ from (by first | omega | (simp; done) | (simp; omega)))).trans xf0; have p1 : V.cell? ⟨w.heap.size, 1, none⟩ = _ := (b3.cell (p := ⟨w.heap.size, 1, none⟩) (show w.heap.size < _ from (by first | omega | (simp; done) | (simp; omega)))).trans x1; have pf1 : V.frozen? ⟨w.heap.size, 1, none⟩ = _ := (b3.frozen (p := ⟨w.heap.size, 1, none⟩) (show w.heap.size < _ from (by first | omega | (simp; done) | (simp; omega)))).trans xf1; have r0 : V.cell? ⟨w.heap.size + 1, 0, none⟩ = _ := (b3.cell (p := ⟨w.heap.size + 1, 0, none⟩) (show w.heap.size + 1 < _ from (by first | omega | (simp; done) | (simp; omega)))).trans y0; have rf0 : V.frozen? ⟨w.heap.size + 1, 0, none⟩ = _ := (b3.frozen (p := ⟨w.heap.size + 1, 0, none⟩) (show w.heap.size + 1 < _ from (by first | omega | (simp; done) | (simp; omega)))).trans yf0; have d3 : Below w.heap.size w V := (by repeat (first | assumption | exact Below.refl _ _ | (refine Below.trans ?_ (b3.mono (by first | omega | (simp; done) | (simp; omega)))) | (refine Below.trans ?_ (d1.mono (by first | omega | (simp; done) | (simp; omega)))) | (refine Below.setCell ?_ (by first | omega | (simp; done) | (simp; omega)) _) | apply below_drewN | apply Below.drew | (refine Below.alloc ?_ (by first | omega | (simp; done) | (simp; omega)) _))); have s3 : w.heap.size < V.heap.size := (by have := b3.size; (try simp at this);omega); have s3' : w.heap.size + 1 < V.heap.size := (by have := b3.size; (try simp at this);omega); clear b3) | (refine ⟨trivial, ?_⟩; gi_at_call 40; refine (callsIn_wide.2 (codeFor_k true true _ 0 rfl)).mono ?_; rintro e4 w4 ⟨rfl, rfl⟩) | (refine ⟨trivial, ?_⟩; gi_at_call 54; refine (hours_in Fence.wide _ trivial rfl _ _ _ _ _ _ _).mono ?_; rintro e5 w5 ⟨rfl, rfl⟩))
  obtain ⟨W0, hW0⟩ : ∃ W0, W0 = (((((V.alloc (.cells (madeCells #[Value.int .i64 0] n) 2)).alloc (.cells #[.slice (some ⟨V.heap.size, 0, none⟩) n n] 37)).alloc (.cells #[.bool false] 4)).alloc (.cells #[.slice A n c] 37)).alloc (.cells #[.slice A' n c'] 37)) := ⟨_, rfl⟩
  have hz : W0.heap.size = V.heap.size + 5 := by rw [hW0]; simp
  have hI0 : OrI V n (orS (wtA sl mg xs ys) []) W0 := by
    have hH := Half.new V n (fun _ => 0) 2 n rfl
    have hB : Below (V.alloc (.cells (madeCells #[Value.int .i64 0] n) 2)).heap.size (V.alloc (.cells (madeCells #[Value.int .i64 0] n) 2)) W0 := by
      rw [hW0]; exact ((((Below.refl _ _).alloc (Nat.le_refl _) _).alloc (by simp) _).alloc (by simp) _).alloc (by simp) _
    refine ⟨by rw [hW0]; exact (by repeat (first | assumption | exact Below.refl _ _ | (refine Below.setCell ?_ (by first | omega | (simp; done) | (simp; omega)) _) | apply below_drewN | apply Below.drew | (refine Below.alloc ?_ (by first | omega | (simp; done) | (simp; omega)) _))), by omega, by rw [hW0]; go_simp, by rw [hW0]; show _ = some (Value.bool false); go_simp, by rw [hW0]; go_simp, fun j hj => ?_⟩
    obtain ⟨g1, g2⟩ := hH j hj
    simp only [Nat.zero_add] at g1 g2
    refine ⟨(hB.cell (p := ⟨V.heap.size, j, none⟩) (by simp)).trans (g1.trans ?_), (hB.frozen (p := ⟨V.heap.size, j, none⟩) (by simp)).trans g2⟩
    simp [List.getD_eq_getElem?_getD, hj, orS]
  have q1 : W0.cell? ⟨V.heap.size + 1 + 1 + 1, 0, none⟩ = some (.slice A n c) := by rw [hW0]; go_simp
  have q2 : W0.cell? ⟨V.heap.size + 1 + 1 + 1 + 1, 0, none⟩ = some (.slice A' n c') := by rw [hW0]; go_simp
  rw [← hW0]
  clear hW0
  refine wpIn_rangeFunc_ownH rfl (by omega) (gf := 74) (lb := #[.pointer (some ⟨V.heap.size + 1 + 1 + 1, 0, none⟩), .pointer (some ⟨V.heap.size + 1 + 1 + 1 + 1, 0, none⟩)]) rfl trivial (enters_of Try.func74 (by kernel_rfl) rfl)
    (hours_stops Fence.wide 8 trivial rfl (by omega) (V.heap.size + 1 + 1 + 1) (V.heap.size + 1 + 1 + 1 + 1) V.heap.size (V.heap.size + 3) (V.heap.size + 5) c c' n A A' xs ys (by omega) W0 (by omega) (by omega) (by omega) (by omega) (by omega) q1 q2 (by omega) (((HA.out.below d3).mono (by omega)).below hI0.E) (((HB.out.below d3).mono (by omega)).below hI0.E)) Mid.trans (midK_b (by omega)) (Below.refl _ _) (fun _ => rfl)
    (fun pre W => OrI V n (orS (wtA sl mg xs ys) (vals pre)) W) (fun _ _ _ => False)
    (fun _ _ _ _ hs hg hr => hs.own hg (fun r e => ⟨by have := (hr r e).1;omega, (hr r e).2⟩)) (fun _ _ _ _ _ hs _ _ => hs) hI0
    (fun x a' W => ∃ Bx, Hr2 (V.heap.size + 5) Bx (xs.getD x.1 0) (ys.getD x.1 0) W ∧ a' = { tmps := #[.agg #[.int .i64 wd, .int .i64 sl], .slice A n c, .slice A' n c', .int .i64 mg, .pointer (some ⟨w.heap.size, 0, none⟩), undef, undef, .pointer (some ⟨w.heap.size + 1, 0, none⟩), .slice none 0 0, .int .i64 0, .bool true, .int .i64 0, .pointer (some ⟨V.heap.size + 1, 0, none⟩), .pointer (some ⟨V.heap.size + 1 + 1, 0, none⟩), .int .i64 (x.1 : Int), .pointer (some ⟨Bx, 0, none⟩), undef, .slice A n c, .slice A' n c', .bool true, .bool true, .int .i64 mg, .bool true, .bool true, .agg #[.int .i64 wd, .int .i64 sl], .bool true, .bool true, .int .i64 0, .int .i64 0, .bool false, undef, .slice A n c, .int .i64 (n : Int), .slice (some ⟨V.heap.size, 0, none⟩) n n, .slice A n c, .slice A' n c', .func (.func 74) #[] #[.pointer (some ⟨V.heap.size + 1 + 1 + 1, 0, none⟩), .pointer (some ⟨V.heap.size + 1 + 1 + 1 + 1, 0, none⟩)], .int .i64 (x.1 : Int), .agg #[.int .i64 (xs.getD x.1 0), .int .i64 (ys.getD x.1 0)], undef, undef, undef, undef, undef, undef, undef, undef, undef, undef, undef, undef, undef, undef, undef, undef, undef, undef, undef, undef, undef, undef], defers := [] })
    (fun x a' _ _ _ _ h hg hr => by
      obtain ⟨Bx, h, e⟩ := h
      exact ⟨Bx, h.own hg (fun r e => (hr r e).2), e⟩) ?assign ?body ?done ?stop
  case assign =>
    rintro l pre x W K hI hK
    have hsz := hI.size
    dsimp only [encH]
    gi_wp2
    have hA2 : Below W.heap.size W (W.alloc (.cells #[.int .i64 (xs.getD x.1 0), .int .i64 (ys.getD x.1 0)] 72)) := (Below.refl _ _).alloc (Nat.le_refl _) _
    exact hK _ _ ((KeepsOthers.alloc W _).from _) (Mid.of_below (hA2.mono hsz)) (hI.below (hA2.mono hsz)) ⟨W.heap.size, ⟨hsz, by simp, by simp, by simp⟩, rfl⟩
  case body =>
    rintro l pre ⟨k, hkn⟩ a' W hl ⟨r, hr⟩ hI ⟨Bx, hBx, rfl⟩ hlt
    have hle : V.heap.size + 5 ≤ W.heap.size := hI.size
    have bD : Below W.heap.size W W.drew := ⟨rfl, rfl, rfl, Nat.le_refl _, fun _ _ => rfl⟩
    have hId : OrI V n (orS (wtA sl mg xs ys) (vals pre)) W.drew := hI.below (bD.mono hle)
    have b0 := hBx.c0
    have b1 := hBx.c1
    have c1 : W.cell? ⟨w.heap.size, 1, none⟩ = some (.int .i64 sl) := (hI.E.cell (p := ⟨w.heap.size, 1, none⟩) s3).trans p1
    have c2 : W.cell? ⟨w.heap.size + 1, 0, none⟩ = some (.int .i64 mg) := (hI.E.cell (p := ⟨w.heap.size + 1, 0, none⟩) s3').trans r0
    have cbd := hId.cb
    have cwd := hId.cw
    have fwd := hId.fw
    have rwd := hId.row k hkn
    obtain ⟨rwd, rfd⟩ := rwd
    have b0d : W.drew.cell? ⟨Bx, 0, none⟩ = _ := b0
    have b1d : W.drew.cell? ⟨Bx, 1, none⟩ = _ := b1
    have hx := HX.out k hkn
    have hy := HY.out k hkn
    obtain ⟨wk, hwk⟩ : ∃ u, u = wtA sl mg xs ys k := ⟨_, rfl⟩
    have HWK := Lib.hid hwk
    obtain ⟨ws, hws⟩ : ∃ u, u = (orS (wtA sl mg xs ys) (vals pre)).1 := ⟨_, rfl⟩
    have HWS := Lib.hid hws
    rw [← hws] at cwd
    obtain ⟨q, hq⟩ : ∃ q, q = orN ws wk := ⟨_, rfl⟩
    have HQ := Lib.hid hq
    unfold wtA at hwk
    obtain ⟨u, hu⟩ : ∃ u, u = xs.getD k 0 := ⟨_, rfl⟩
    obtain ⟨v, hv⟩ : ∃ v, v = ys.getD k 0 := ⟨_, rfl⟩
    simp only at b0 b1 b0d b1d ⊢
    rw [← hu] at b0 b0d hx hwk
    rw [← hv] at b1 b1d hy hwk
    rw [← hu, ← hv]
    obtain ⟨hx1, hx2⟩ := hx
    obtain ⟨hy1, hy2⟩ := hy
    have f1 := IntWalk.i64_in (u - v) (by omega)
    clear hu hv hws hq hBx
    by_cases g1 : mg ≤ u - v
    · by_cases g2 : sl < u
      · have q1 : decide (u - v ≥ mg) = true := by simp;omega
        have q2 : decide (u > sl) = true := by simp;omega
        obtain rfl : wk = true := by rw [hwk]; first | exact decide_eq_true ⟨by omega, by omega⟩ | exact decide_eq_false (by omega)
        clear hwk
        gi_wp2
        refine wpIn_region_any hmx ?_
        change wpAnyIn _ _ _ _ _ _ _ _ _ (World.drew W)
        generalize World.drew W = Wd at bD hId b0d b1d cbd cwd rwd rfd fwd ⊢
        refine wpAnyIn_ready (rs := [0, 1, 2, 3]) (by kernel_rfl) (by simp) ?_
        refine AllReadyIn.cons rfl (fun K hK => ?_) (AllReadyIn.cons rfl (fun K hK => ?_) (AllReadyIn.cons rfl (fun K hK => ?_) (AllReadyIn.cons rfl (fun K hK => ?_) AllReadyIn.nil)))
        · go_simp
          refine hK _ _ ?_
          clear hK K
          refine wpAnyIn_ready (rs := [1, 2, 3]) (by kernel_rfl) (by simp) ?_
          refine AllReadyIn.cons rfl (fun K hK => ?_) (AllReadyIn.cons rfl (fun K hK => ?_) (AllReadyIn.cons rfl (fun K hK => ?_) AllReadyIn.nil))
          · go_simp
            refine hK _ _ ?_
            clear hK K
            refine wpAnyIn_ready (rs := [2, 3]) (by kernel_rfl) (by simp) ?_
            refine AllReadyIn.cons rfl (fun K hK => ?_) (AllReadyIn.cons rfl (fun K hK => ?_) AllReadyIn.nil)
            · go_simp
              refine hK _ _ ?_
              clear hK K
              refine wpAnyIn_ready (rs := [3]) (by kernel_rfl) (by simp) ?_
              refine AllReadyIn.cons rfl (fun K hK => ?_) AllReadyIn.nil
              go_simp
              refine hK _ _ ?_
              clear hK K
              refine wpAnyIn_ready (rs := [4]) (by kernel_rfl) (by simp) ?_
              refine AllReadyIn.cons rfl (fun K hK => ?_) AllReadyIn.nil
              go_simp
              refine ⟨trivial, ?_⟩
              refine (CallsIn.inRound l (callsIn_wide.2 (ob_t ws true _ q HQ.out))).mono ?_
              rintro e1 W1 ⟨rfl, rfl⟩
              refine hK _ _ ?_
              clear hK K
              refine wpAnyIn_ready (rs := [5]) (by kernel_rfl) (by simp) ?_
              refine AllReadyIn.cons rfl (fun K hK => ?_) AllReadyIn.nil
              go_simp
              refine hK _ _ ?_
              clear hK K
              refine wpAnyIn_ready (rs := [6]) (by kernel_rfl) (by simp) ?_
              refine AllReadyIn.cons rfl (fun K hK => ?_) AllReadyIn.nil
              go_simp
              refine hK _ _ ?_
              clear hK K
              refine wpAnyIn_done (by kernel_rfl) ?_ _
              gi_wp2
              exact ⟨(((keepsOthers_below bD).trans (KeepsOthers.setCell _ _ _)).trans (KeepsOthers.setCell _ _ _)).from _, ((Mid.of_below (bD.mono hle)).setCell (p := ⟨V.heap.size, k, none⟩) (.inl ⟨Nat.le_refl _, by show V.heap.size < V.heap.size + 3;omega⟩) _).setCell (p := ⟨V.heap.size + 1 + 1, 0, none⟩) (.inl ⟨by show V.heap.size ≤ V.heap.size + 1 + 1;omega, by show V.heap.size + 1 + 1 < V.heap.size + 3;omega⟩) _, by show OrI V n (orS (wtA sl mg xs ys) (vals (pre ++ [⟨k, hkn⟩]))) _; rw [vals_snoc, orS_snoc, ← HWK.out, ← HWS.out, ← HQ.out]; exact hId.set hkn _ _⟩
            · go_simp
              refine hK _ _ ?_
              clear hK K
              refine wpAnyIn_ready (rs := [2]) (by kernel_rfl) (by simp) ?_
              refine AllReadyIn.cons rfl (fun K hK => ?_) AllReadyIn.nil
              go_simp
              refine hK _ _ ?_
              clear hK K
              refine wpAnyIn_ready (rs := [4]) (by kernel_rfl) (by simp) ?_
              refine AllReadyIn.cons rfl (fun K hK => ?_) AllReadyIn.nil
              go_simp
              refine ⟨trivial, ?_⟩
              refine (CallsIn.inRound l (callsIn_wide.2 (ob_t ws true _ q HQ.out))).mono ?_
              rintro e1 W1 ⟨rfl, rfl⟩
              refine hK _ _ ?_
              clear hK K
              refine wpAnyIn_ready (rs := [5]) (by kernel_rfl) (by simp) ?_
              refine AllReadyIn.cons rfl (fun K hK => ?_) AllReadyIn.nil
              go_simp
              refine hK _ _ ?_
              clear hK K
              refine wpAnyIn_ready (rs := [6]) (by kernel_rfl) (by simp) ?_
              refine AllReadyIn.cons rfl (fun K hK => ?_) AllReadyIn.nil
              go_simp
              refine hK _ _ ?_
              clear hK K
              refine wpAnyIn_done (by kernel_rfl) ?_ _
              gi_wp2
              exact ⟨(((keepsOthers_below bD).trans (KeepsOthers.setCell _ _ _)).trans (KeepsOthers.setCell _ _ _)).from _, ((Mid.of_below (bD.mono hle)).setCell (p := ⟨V.heap.size, k, none⟩) (.inl ⟨Nat.le_refl _, by show V.heap.size < V.heap.size + 3;omega⟩) _).setCell (p := ⟨V.heap.size + 1 + 1, 0, none⟩) (.inl ⟨by show V.heap.size ≤ V.heap.size + 1 + 1;omega, by show V.heap.size + 1 + 1 < V.heap.size + 3;omega⟩) _, by show OrI V n (orS (wtA sl mg xs ys) (vals (pre ++ [⟨k, hkn⟩]))) _; rw [vals_snoc, orS_snoc, ← HWK.out, ← HWS.out, ← HQ.out]; exact hId.set hkn _ _⟩
          · go_simp
            refine hK _ _ ?_
            clear hK K
            refine wpAnyIn_ready (rs := [1, 3]) (by kernel_rfl) (by simp) ?_
            refine AllReadyIn.cons rfl (fun K hK => ?_) (AllReadyIn.cons rfl (fun K hK => ?_) AllReadyIn.nil)
            · go_simp
              refine hK _ _ ?_
              clear hK K
              refine wpAnyIn_ready (rs := [3]) (by kernel_rfl) (by simp) ?_
              refine AllReadyIn.cons rfl (fun K hK => ?_) AllReadyIn.nil
              go_simp
              refine hK _ _ ?_
              clear hK K
              refine wpAnyIn_ready (rs := [4]) (by kernel_rfl) (by simp) ?_
              refine AllReadyIn.cons rfl (fun K hK => ?_) AllReadyIn.nil
              go_simp
              refine ⟨trivial, ?_⟩
              refine (CallsIn.inRound l (callsIn_wide.2 (ob_t ws true _ q HQ.out))).mono ?_
              rintro e1 W1 ⟨rfl, rfl⟩
              refine hK _ _ ?_
              clear hK K
              refine wpAnyIn_ready (rs := [5]) (by kernel_rfl) (by simp) ?_
              refine AllReadyIn.cons rfl (fun K hK => ?_) AllReadyIn.nil
              go_simp
              refine hK _ _ ?_
              clear hK K
              refine wpAnyIn_ready (rs := [6]) (by kernel_rfl) (by simp) ?_
              refine AllReadyIn.cons rfl (fun K hK => ?_) AllReadyIn.nil
              go_simp
              refine hK _ _ ?_
              clear hK K
              refine wpAnyIn_done (by kernel_rfl) ?_ _
              gi_wp2
              exact ⟨(((keepsOthers_below bD).trans (KeepsOthers.setCell _ _ _)).trans (KeepsOthers.setCell _ _ _)).from _, ((Mid.of_below (bD.mono hle)).setCell (p := ⟨V.heap.size, k, none⟩) (.inl ⟨Nat.le_refl _, by show V.heap.size < V.heap.size + 3;omega⟩) _).setCell (p := ⟨V.heap.size + 1 + 1, 0, none⟩) (.inl ⟨by show V.heap.size ≤ V.heap.size + 1 + 1;omega, by show V.heap.size + 1 + 1 < V.heap.size + 3;omega⟩) _, by show OrI V n (orS (wtA sl mg xs ys) (vals (pre ++ [⟨k, hkn⟩]))) _; rw [vals_snoc, orS_snoc, ← HWK.out, ← HWS.out, ← HQ.out]; exact hId.set hkn _ _⟩
            · go_simp
              refine hK _ _ ?_
              clear hK K
              refine wpAnyIn_ready (rs := [1, 4]) (by kernel_rfl) (by simp) ?_
              refine AllReadyIn.cons rfl (fun K hK => ?_) (AllReadyIn.cons rfl (fun K hK => ?_) AllReadyIn.nil)
              · go_simp
                refine hK _ _ ?_
                clear hK K
                refine wpAnyIn_ready (rs := [4]) (by kernel_rfl) (by simp) ?_
                refine AllReadyIn.cons rfl (fun K hK => ?_) AllReadyIn.nil
                go_simp
                refine ⟨trivial, ?_⟩
                refine (CallsIn.inRound l (callsIn_wide.2 (ob_t ws true _ q HQ.out))).mono ?_
                rintro e1 W1 ⟨rfl, rfl⟩
                refine hK _ _ ?_
                clear hK K
                refine wpAnyIn_ready (rs := [5]) (by kernel_rfl) (by simp) ?_
                refine AllReadyIn.cons rfl (fun K hK => ?_) AllReadyIn.nil
                go_simp
                refine hK _ _ ?_
                clear hK K
                refine wpAnyIn_ready (rs := [6]) (by kernel_rfl) (by simp) ?_
                refine AllReadyIn.cons rfl (fun K hK => ?_) AllReadyIn.nil
                go_simp
                refine hK _ _ ?_
                clear hK K
                refine wpAnyIn_done (by kernel_rfl) ?_ _
                gi_wp2
                exact ⟨(((keepsOthers_below bD).trans (KeepsOthers.setCell _ _ _)).trans (KeepsOthers.setCell _ _ _)).from _, ((Mid.of_below (bD.mono hle)).setCell (p := ⟨V.heap.size, k, none⟩) (.inl ⟨Nat.le_refl _, by show V.heap.size < V.heap.size + 3;omega⟩) _).setCell (p := ⟨V.heap.size + 1 + 1, 0, none⟩) (.inl ⟨by show V.heap.size ≤ V.heap.size + 1 + 1;omega, by show V.heap.size + 1 + 1 < V.heap.size + 3;omega⟩) _, by show OrI V n (orS (wtA sl mg xs ys) (vals (pre ++ [⟨k, hkn⟩]))) _; rw [vals_snoc, orS_snoc, ← HWK.out, ← HWS.out, ← HQ.out]; exact hId.set hkn _ _⟩
              · go_simp
                refine ⟨trivial, ?_⟩
                refine (CallsIn.inRound l (callsIn_wide.2 (ob_t ws true _ q HQ.out))).mono ?_
                rintro e1 W1 ⟨rfl, rfl⟩
                refine hK _ _ ?_
                clear hK K
                refine wpAnyIn_ready (rs := [1]) (by kernel_rfl) (by simp) ?_
                refine AllReadyIn.cons rfl (fun K hK => ?_) AllReadyIn.nil
                go_simp
                refine hK _ _ ?_
                clear hK K
                refine wpAnyIn_ready (rs := [5]) (by kernel_rfl) (by simp) ?_
                refine AllReadyIn.cons rfl (fun K hK => ?_) AllReadyIn.nil
                go_simp
                refine hK _ _ ?_
                clear hK K
                refine wpAnyIn_ready (rs := [6]) (by kernel_rfl) (by simp) ?_
                refine AllReadyIn.cons rfl (fun K hK => ?_) AllReadyIn.nil
                go_simp
                refine hK _ _ ?_
                clear hK K
                refine wpAnyIn_done (by kernel_rfl) ?_ _
                gi_wp2
                exact ⟨(((keepsOthers_below bD).trans (KeepsOthers.setCell _ _ _)).trans (KeepsOthers.setCell _ _ _)).from _, ((Mid.of_below (bD.mono hle)).setCell (p := ⟨V.heap.size, k, none⟩) (.inl ⟨Nat.le_refl _, by show V.heap.size < V.heap.size + 3;omega⟩) _).setCell (p := ⟨V.heap.size + 1 + 1, 0, none⟩) (.inl ⟨by show V.heap.size ≤ V.heap.size + 1 + 1;omega, by show V.heap.size + 1 + 1 < V.heap.size + 3;omega⟩) _, by show OrI V n (orS (wtA sl mg xs ys) (vals (pre ++ [⟨k, hkn⟩]))) _; rw [vals_snoc, orS_snoc, ← HWK.out, ← HWS.out, ← HQ.out]; exact hId.set hkn _ _⟩
          · go_simp
            refine hK _ _ ?_
            clear hK K
            refine wpAnyIn_ready (rs := [1, 2]) (by kernel_rfl) (by simp) ?_
            refine AllReadyIn.cons rfl (fun K hK => ?_) (AllReadyIn.cons rfl (fun K hK => ?_) AllReadyIn.nil)
            · go_simp
              refine hK _ _ ?_
              clear hK K
              refine wpAnyIn_ready (rs := [2]) (by kernel_rfl) (by simp) ?_
              refine AllReadyIn.cons rfl (fun K hK => ?_) AllReadyIn.nil
              go_simp
              refine hK _ _ ?_
              clear hK K
              refine wpAnyIn_ready (rs := [4]) (by kernel_rfl) (by simp) ?_
              refine AllReadyIn.cons rfl (fun K hK => ?_) AllReadyIn.nil
              go_simp
              refine ⟨trivial, ?_⟩
              refine (CallsIn.inRound l (callsIn_wide.2 (ob_t ws true _ q HQ.out))).mono ?_
              rintro e1 W1 ⟨rfl, rfl⟩
              refine hK _ _ ?_
              clear hK K
              refine wpAnyIn_ready (rs := [5]) (by kernel_rfl) (by simp) ?_
              refine AllReadyIn.cons rfl (fun K hK => ?_) AllReadyIn.nil
              go_simp
              refine hK _ _ ?_
              clear hK K
              refine wpAnyIn_ready (rs := [6]) (by kernel_rfl) (by simp) ?_
              refine AllReadyIn.cons rfl (fun K hK => ?_) AllReadyIn.nil
              go_simp
              refine hK _ _ ?_
              clear hK K
              refine wpAnyIn_done (by kernel_rfl) ?_ _
              gi_wp2
              exact ⟨(((keepsOthers_below bD).trans (KeepsOthers.setCell _ _ _)).trans (KeepsOthers.setCell _ _ _)).from _, ((Mid.of_below (bD.mono hle)).setCell (p := ⟨V.heap.size, k, none⟩) (.inl ⟨Nat.le_refl _, by show V.heap.size < V.heap.size + 3;omega⟩) _).setCell (p := ⟨V.heap.size + 1 + 1, 0, none⟩) (.inl ⟨by show V.heap.size ≤ V.heap.size + 1 + 1;omega, by show V.heap.size + 1 + 1 < V.heap.size + 3;omega⟩) _, by show OrI V n (orS (wtA sl mg xs ys) (vals (pre ++ [⟨k, hkn⟩]))) _; rw [vals_snoc, orS_snoc, ← HWK.out, ← HWS.out, ← HQ.out]; exact hId.set hkn _ _⟩
            · go_simp
              refine hK _ _ ?_
              clear hK K
              refine wpAnyIn_ready (rs := [1, 4]) (by kernel_rfl) (by simp) ?_
              refine AllReadyIn.cons rfl (fun K hK => ?_) (AllReadyIn.cons rfl (fun K hK => ?_) AllReadyIn.nil)
              · go_simp
                refine hK _ _ ?_
                clear hK K
                refine wpAnyIn_ready (rs := [4]) (by kernel_rfl) (by simp) ?_
                refine AllReadyIn.cons rfl (fun K hK => ?_) AllReadyIn.nil
                go_simp
                refine ⟨trivial, ?_⟩
                refine (CallsIn.inRound l (callsIn_wide.2 (ob_t ws true _ q HQ.out))).mono ?_
                rintro e1 W1 ⟨rfl, rfl⟩
                refine hK _ _ ?_
                clear hK K
                refine wpAnyIn_ready (rs := [5]) (by kernel_rfl) (by simp) ?_
                refine AllReadyIn.cons rfl (fun K hK => ?_) AllReadyIn.nil
                go_simp
                refine hK _ _ ?_
                clear hK K
                refine wpAnyIn_ready (rs := [6]) (by kernel_rfl) (by simp) ?_
                refine AllReadyIn.cons rfl (fun K hK => ?_) AllReadyIn.nil
                go_simp
                refine hK _ _ ?_
                clear hK K
                refine wpAnyIn_done (by kernel_rfl) ?_ _
                gi_wp2
                exact ⟨(((keepsOthers_below bD).trans (KeepsOthers.setCell _ _ _)).trans (KeepsOthers.setCell _ _ _)).from _, ((Mid.of_below (bD.mono hle)).setCell (p := ⟨V.heap.size, k, none⟩) (.inl ⟨Nat.le_refl _, by show V.heap.size < V.heap.size + 3;omega⟩) _).setCell (p := ⟨V.heap.size + 1 + 1, 0, none⟩) (.inl ⟨by show V.heap.size ≤ V.heap.size + 1 + 1;omega, by show V.heap.size + 1 + 1 < V.heap.size + 3;omega⟩) _, by show OrI V n (orS (wtA sl mg xs ys) (vals (pre ++ [⟨k, hkn⟩]))) _; rw [vals_snoc, orS_snoc, ← HWK.out, ← HWS.out, ← HQ.out]; exact hId.set hkn _ _⟩
              · go_simp
                refine ⟨trivial, ?_⟩
                refine (CallsIn.inRound l (callsIn_wide.2 (ob_t ws true _ q HQ.out))).mono ?_
                rintro e1 W1 ⟨rfl, rfl⟩
                refine hK _ _ ?_
                clear hK K
                refine wpAnyIn_ready (rs := [1]) (by kernel_rfl) (by simp) ?_
                refine AllReadyIn.cons rfl (fun K hK => ?_) AllReadyIn.nil
                go_simp
                refine hK _ _ ?_
                clear hK K
                refine wpAnyIn_ready (rs := [5]) (by kernel_rfl) (by simp) ?_
                refine AllReadyIn.cons rfl (fun K hK => ?_) AllReadyIn.nil
                go_simp
                refine hK _ _ ?_
                clear hK K
                refine wpAnyIn_ready (rs := [6]) (by kernel_rfl) (by simp) ?_
                refine AllReadyIn.cons rfl (fun K hK => ?_) AllReadyIn.nil
                go_simp
                refine hK _ _ ?_
                clear hK K
                refine wpAnyIn_done (by kernel_rfl) ?_ _
                gi_wp2
                exact ⟨(((keepsOthers_below bD).trans (KeepsOthers.setCell _ _ _)).trans (KeepsOthers.setCell _ _ _)).from _, ((Mid.of_below (bD.mono hle)).setCell (p := ⟨V.heap.size, k, none⟩) (.inl ⟨Nat.le_refl _, by show V.heap.size < V.heap.size + 3;omega⟩) _).setCell (p := ⟨V.heap.size + 1 + 1, 0, none⟩) (.inl ⟨by show V.heap.size ≤ V.heap.size + 1 + 1;omega, by show V.heap.size + 1 + 1 < V.heap.size + 3;omega⟩) _, by show OrI V n (orS (wtA sl mg xs ys) (vals (pre ++ [⟨k, hkn⟩]))) _; rw [vals_snoc, orS_snoc, ← HWK.out, ← HWS.out, ← HQ.out]; exact hId.set hkn _ _⟩
        · go_simp
          refine hK _ _ ?_
          clear hK K
          refine wpAnyIn_ready (rs := [0, 2, 3]) (by kernel_rfl) (by simp) ?_
          refine AllReadyIn.cons rfl (fun K hK => ?_) (AllReadyIn.cons rfl (fun K hK => ?_) (AllReadyIn.cons rfl (fun K hK => ?_) AllReadyIn.nil))
          · go_simp
            refine hK _ _ ?_
            clear hK K
            refine wpAnyIn_ready (rs := [2, 3]) (by kernel_rfl) (by simp) ?_
            refine AllReadyIn.cons rfl (fun K hK => ?_) (AllReadyIn.cons rfl (fun K hK => ?_) AllReadyIn.nil)
            · go_simp
              refine hK _ _ ?_
              clear hK K
              refine wpAnyIn_ready (rs := [3]) (by kernel_rfl) (by simp) ?_
              refine AllReadyIn.cons rfl (fun K hK => ?_) AllReadyIn.nil
              go_simp
              refine hK _ _ ?_
              clear hK K
              refine wpAnyIn_ready (rs := [4]) (by kernel_rfl) (by simp) ?_
              refine AllReadyIn.cons rfl (fun K hK => ?_) AllReadyIn.nil
              go_simp
              refine ⟨trivial, ?_⟩
              refine (CallsIn.inRound l (callsIn_wide.2 (ob_t ws true _ q HQ.out))).mono ?_
              rintro e1 W1 ⟨rfl, rfl⟩
              refine hK _ _ ?_
              clear hK K
              refine wpAnyIn_ready (rs := [5]) (by kernel_rfl) (by simp) ?_
              refine AllReadyIn.cons rfl (fun K hK => ?_) AllReadyIn.nil
              go_simp
              refine hK _ _ ?_
              clear hK K
              refine wpAnyIn_ready (rs := [6]) (by kernel_rfl) (by simp) ?_
              refine AllReadyIn.cons rfl (fun K hK => ?_) AllReadyIn.nil
              go_simp
              refine hK _ _ ?_
              clear hK K
              refine wpAnyIn_done (by kernel_rfl) ?_ _
              gi_wp2
              exact ⟨(((keepsOthers_below bD).trans (KeepsOthers.setCell _ _ _)).trans (KeepsOthers.setCell _ _ _)).from _, ((Mid.of_below (bD.mono hle)).setCell (p := ⟨V.heap.size, k, none⟩) (.inl ⟨Nat.le_refl _, by show V.heap.size < V.heap.size + 3;omega⟩) _).setCell (p := ⟨V.heap.size + 1 + 1, 0, none⟩) (.inl ⟨by show V.heap.size ≤ V.heap.size + 1 + 1;omega, by show V.heap.size + 1 + 1 < V.heap.size + 3;omega⟩) _, by show OrI V n (orS (wtA sl mg xs ys) (vals (pre ++ [⟨k, hkn⟩]))) _; rw [vals_snoc, orS_snoc, ← HWK.out, ← HWS.out, ← HQ.out]; exact hId.set hkn _ _⟩
            · go_simp
              refine hK _ _ ?_
              clear hK K
              refine wpAnyIn_ready (rs := [2]) (by kernel_rfl) (by simp) ?_
              refine AllReadyIn.cons rfl (fun K hK => ?_) AllReadyIn.nil
              go_simp
              refine hK _ _ ?_
              clear hK K
              refine wpAnyIn_ready (rs := [4]) (by kernel_rfl) (by simp) ?_
              refine AllReadyIn.cons rfl (fun K hK => ?_) AllReadyIn.nil
              go_simp
              refine ⟨trivial, ?_⟩
              refine (CallsIn.inRound l (callsIn_wide.2 (ob_t ws true _ q HQ.out))).mono ?_
              rintro e1 W1 ⟨rfl, rfl⟩
              refine hK _ _ ?_
              clear hK K
              refine wpAnyIn_ready (rs := [5]) (by kernel_rfl) (by simp) ?_
              refine AllReadyIn.cons rfl (fun K hK => ?_) AllReadyIn.nil
              go_simp
              refine hK _ _ ?_
              clear hK K
              refine wpAnyIn_ready (rs := [6]) (by kernel_rfl) (by simp) ?_
              refine AllReadyIn.cons rfl (fun K hK => ?_) AllReadyIn.nil
              go_simp
              refine hK _ _ ?_
              clear hK K
              refine wpAnyIn_done (by kernel_rfl) ?_ _
              gi_wp2
              exact ⟨(((keepsOthers_below bD).trans (KeepsOthers.setCell _ _ _)).trans (KeepsOthers.setCell _ _ _)).from _, ((Mid.of_below (bD.mono hle)).setCell (p := ⟨V.heap.size, k, none⟩) (.inl ⟨Nat.le_refl _, by show V.heap.size < V.heap.size + 3;omega⟩) _).setCell (p := ⟨V.heap.size + 1 + 1, 0, none⟩) (.inl ⟨by show V.heap.size ≤ V.heap.size + 1 + 1;omega, by show V.heap.size + 1 + 1 < V.heap.size + 3;omega⟩) _, by show OrI V n (orS (wtA sl mg xs ys) (vals (pre ++ [⟨k, hkn⟩]))) _; rw [vals_snoc, orS_snoc, ← HWK.out, ← HWS.out, ← HQ.out]; exact hId.set hkn _ _⟩
          · go_simp
            refine hK _ _ ?_
            clear hK K
            refine wpAnyIn_ready (rs := [0, 3]) (by kernel_rfl) (by simp) ?_
            refine AllReadyIn.cons rfl (fun K hK => ?_) (AllReadyIn.cons rfl (fun K hK => ?_) AllReadyIn.nil)
            · go_simp
              refine hK _ _ ?_
              clear hK K
              refine wpAnyIn_ready (rs := [3]) (by kernel_rfl) (by simp) ?_
              refine AllReadyIn.cons rfl (fun K hK => ?_) AllReadyIn.nil
              go_simp
              refine hK _ _ ?_
              clear hK K
              refine wpAnyIn_ready (rs := [4]) (by kernel_rfl) (by simp) ?_
              refine AllReadyIn.cons rfl (fun K hK => ?_) AllReadyIn.nil
              go_simp
              refine ⟨trivial, ?_⟩
              refine (CallsIn.inRound l (callsIn_wide.2 (ob_t ws true _ q HQ.out))).mono ?_
              rintro e1 W1 ⟨rfl, rfl⟩
              refine hK _ _ ?_
              clear hK K
              refine wpAnyIn_ready (rs := [5]) (by kernel_rfl) (by simp) ?_
              refine AllReadyIn.cons rfl (fun K hK => ?_) AllReadyIn.nil
              go_simp
              refine hK _ _ ?_
              clear hK K
              refine wpAnyIn_ready (rs := [6]) (by kernel_rfl) (by simp) ?_
              refine AllReadyIn.cons rfl (fun K hK => ?_) AllReadyIn.nil
              go_simp
              refine hK _ _ ?_
              clear hK K
              refine wpAnyIn_done (by kernel_rfl) ?_ _
              gi_wp2
              exact ⟨(((keepsOthers_below bD).trans (KeepsOthers.setCell _ _ _)).trans (KeepsOthers.setCell _ _ _)).from _, ((Mid.of_below (bD.mono hle)).setCell (p := ⟨V.heap.size, k, none⟩) (.inl ⟨Nat.le_refl _, by show V.heap.size < V.heap.size + 3;omega⟩) _).setCell (p := ⟨V.heap.size + 1 + 1, 0, none⟩) (.inl ⟨by show V.heap.size ≤ V.heap.size + 1 + 1;omega, by show V.heap.size + 1 + 1 < V.heap.size + 3;omega⟩) _, by show OrI V n (orS (wtA sl mg xs ys) (vals (pre ++ [⟨k, hkn⟩]))) _; rw [vals_snoc, orS_snoc, ← HWK.out, ← HWS.out, ← HQ.out]; exact hId.set hkn _ _⟩
            · go_simp
              refine hK _ _ ?_
              clear hK K
              refine wpAnyIn_ready (rs := [0, 4]) (by kernel_rfl) (by simp) ?_
              refine AllReadyIn.cons rfl (fun K hK => ?_) (AllReadyIn.cons rfl (fun K hK => ?_) AllReadyIn.nil)
              · go_simp
                refine hK _ _ ?_
                clear hK K
                refine wpAnyIn_ready (rs := [4]) (by kernel_rfl) (by simp) ?_
                refine AllReadyIn.cons rfl (fun K hK => ?_) AllReadyIn.nil
                go_simp
                refine ⟨trivial, ?_⟩
                refine (CallsIn.inRound l (callsIn_wide.2 (ob_t ws true _ q HQ.out))).mono ?_
                rintro e1 W1 ⟨rfl, rfl⟩
                refine hK _ _ ?_
                clear hK K
                refine wpAnyIn_ready (rs := [5]) (by kernel_rfl) (by simp) ?_
                refine AllReadyIn.cons rfl (fun K hK => ?_) AllReadyIn.nil
                go_simp
                refine hK _ _ ?_
                clear hK K
                refine wpAnyIn_ready (rs := [6]) (by kernel_rfl) (by simp) ?_
                refine AllReadyIn.cons rfl (fun K hK => ?_) AllReadyIn.nil
                go_simp
                refine hK _ _ ?_
                clear hK K
                refine wpAnyIn_done (by kernel_rfl) ?_ _
                gi_wp2
                exact ⟨(((keepsOthers_below bD).trans (KeepsOthers.setCell _ _ _)).trans (KeepsOthers.setCell _ _ _)).from _, ((Mid.of_below (bD.mono hle)).setCell (p := ⟨V.heap.size, k, none⟩) (.inl ⟨Nat.le_refl _, by show V.heap.size < V.heap.size + 3;omega⟩) _).setCell (p := ⟨V.heap.size + 1 + 1, 0, none⟩) (.inl ⟨by show V.heap.size ≤ V.heap.size + 1 + 1;omega, by show V.heap.size + 1 + 1 < V.heap.size + 3;omega⟩) _, by show OrI V n (orS (wtA sl mg xs ys) (vals (pre ++ [⟨k, hkn⟩]))) _; rw [vals_snoc, orS_snoc, ← HWK.out, ← HWS.out, ← HQ.out]; exact hId.set hkn _ _⟩
              · go_simp
                refine ⟨trivial, ?_⟩
                refine (CallsIn.inRound l (callsIn_wide.2 (ob_t ws true _ q HQ.out))).mono ?_
                rintro e1 W1 ⟨rfl, rfl⟩
                refine hK _ _ ?_
                clear hK K
                refine wpAnyIn_ready (rs := [0]) (by kernel_rfl) (by simp) ?_
                refine AllReadyIn.cons rfl (fun K hK => ?_) AllReadyIn.nil
                go_simp
                refine hK _ _ ?_
                clear hK K
                refine wpAnyIn_ready (rs := [5]) (by kernel_rfl) (by simp) ?_
                refine AllReadyIn.cons rfl (fun K hK => ?_) AllReadyIn.nil
                go_simp
                refine hK _ _ ?_
                clear hK K
                refine wpAnyIn_ready (rs := [6]) (by kernel_rfl) (by simp) ?_
                refine AllReadyIn.cons rfl (fun K hK => ?_) AllReadyIn.nil
                go_simp
                refine hK _ _ ?_
                clear hK K
                refine wpAnyIn_done (by kernel_rfl) ?_ _
                gi_wp2
                exact ⟨(((keepsOthers_below bD).trans (KeepsOthers.setCell _ _ _)).trans (KeepsOthers.setCell _ _ _)).from _, ((Mid.of_below (bD.mono hle)).setCell (p := ⟨V.heap.size, k, none⟩) (.inl ⟨Nat.le_refl _, by show V.heap.size < V.heap.size + 3;omega⟩) _).setCell (p := ⟨V.heap.size + 1 + 1, 0, none⟩) (.inl ⟨by show V.heap.size ≤ V.heap.size + 1 + 1;omega, by show V.heap.size + 1 + 1 < V.heap.size + 3;omega⟩) _, by show OrI V n (orS (wtA sl mg xs ys) (vals (pre ++ [⟨k, hkn⟩]))) _; rw [vals_snoc, orS_snoc, ← HWK.out, ← HWS.out, ← HQ.out]; exact hId.set hkn _ _⟩
          · go_simp
            refine hK _ _ ?_
            clear hK K
            refine wpAnyIn_ready (rs := [0, 2]) (by kernel_rfl) (by simp) ?_
            refine AllReadyIn.cons rfl (fun K hK => ?_) (AllReadyIn.cons rfl (fun K hK => ?_) AllReadyIn.nil)
            · go_simp
              refine hK _ _ ?_
              clear hK K
              refine wpAnyIn_ready (rs := [2]) (by kernel_rfl) (by simp) ?_
              refine AllReadyIn.cons rfl (fun K hK => ?_) AllReadyIn.nil
              go_simp
              refine hK _ _ ?_
              clear hK K
              refine wpAnyIn_ready (rs := [4]) (by kernel_rfl) (by simp) ?_
              refine AllReadyIn.cons rfl (fun K hK => ?_) AllReadyIn.nil
              go_simp
              refine ⟨trivial, ?_⟩
              refine (CallsIn.inRound l (callsIn_wide.2 (ob_t ws true _ q HQ.out))).mono ?_
              rintro e1 W1 ⟨rfl, rfl⟩
              refine hK _ _ ?_
              clear hK K
              refine wpAnyIn_ready (rs := [5]) (by kernel_rfl) (by simp) ?_
              refine AllReadyIn.cons rfl (fun K hK => ?_) AllReadyIn.nil
              go_simp
              refine hK _ _ ?_
              clear hK K
              refine wpAnyIn_ready (rs := [6]) (by kernel_rfl) (by simp) ?_
              refine AllReadyIn.cons rfl (fun K hK => ?_) AllReadyIn.nil
              go_simp
              refine hK _ _ ?_
              clear hK K
              refine wpAnyIn_done (by kernel_rfl) ?_ _
              gi_wp2
              exact ⟨(((keepsOthers_below bD).trans (KeepsOthers.setCell _ _ _)).trans (KeepsOthers.setCell _ _ _)).from _, ((Mid.of_below (bD.mono hle)).setCell (p := ⟨V.heap.size, k, none⟩) (.inl ⟨Nat.le_refl _, by show V.heap.size < V.heap.size + 3;omega⟩) _).setCell (p := ⟨V.heap.size + 1 + 1, 0, none⟩) (.inl ⟨by show V.heap.size ≤ V.heap.size + 1 + 1;omega, by show V.heap.size + 1 + 1 < V.heap.size + 3;omega⟩) _, by show OrI V n (orS (wtA sl mg xs ys) (vals (pre ++ [⟨k, hkn⟩]))) _; rw [vals_snoc, orS_snoc, ← HWK.out, ← HWS.out, ← HQ.out]; exact hId.set hkn _ _⟩
            · go_simp
              refine hK _ _ ?_
              clear hK K
              refine wpAnyIn_ready (rs := [0, 4]) (by kernel_rfl) (by simp) ?_
              refine AllReadyIn.cons rfl (fun K hK => ?_) (AllReadyIn.cons rfl (fun K hK => ?_) AllReadyIn.nil)
              · go_simp
                refine hK _ _ ?_
                clear hK K
                refine wpAnyIn_ready (rs := [4]) (by kernel_rfl) (by simp) ?_
                refine AllReadyIn.cons rfl (fun K hK => ?_) AllReadyIn.nil
                go_simp
                refine ⟨trivial, ?_⟩
                refine (CallsIn.inRound l (callsIn_wide.2 (ob_t ws true _ q HQ.out))).mono ?_
                rintro e1 W1 ⟨rfl, rfl⟩
                refine hK _ _ ?_
                clear hK K
                refine wpAnyIn_ready (rs := [5]) (by kernel_rfl) (by simp) ?_
                refine AllReadyIn.cons rfl (fun K hK => ?_) AllReadyIn.nil
                go_simp
                refine hK _ _ ?_
                clear hK K
                refine wpAnyIn_ready (rs := [6]) (by kernel_rfl) (by simp) ?_
                refine AllReadyIn.cons rfl (fun K hK => ?_) AllReadyIn.nil
                go_simp
                refine hK _ _ ?_
                clear hK K
                refine wpAnyIn_done (by kernel_rfl) ?_ _
                gi_wp2
                exact ⟨(((keepsOthers_below bD).trans (KeepsOthers.setCell _ _ _)).trans (KeepsOthers.setCell _ _ _)).from _, ((Mid.of_below (bD.mono hle)).setCell (p := ⟨V.heap.size, k, none⟩) (.inl ⟨Nat.le_refl _, by show V.heap.size < V.heap.size + 3;omega⟩) _).setCell (p := ⟨V.heap.size + 1 + 1, 0, none⟩) (.inl ⟨by show V.heap.size ≤ V.heap.size + 1 + 1;omega, by show V.heap.size + 1 + 1 < V.heap.size + 3;omega⟩) _, by show OrI V n (orS (wtA sl mg xs ys) (vals (pre ++ [⟨k, hkn⟩]))) _; rw [vals_snoc, orS_snoc, ← HWK.out, ← HWS.out, ← HQ.out]; exact hId.set hkn _ _⟩
              · go_simp
                refine ⟨trivial, ?_⟩
                refine (CallsIn.inRound l (callsIn_wide.2 (ob_t ws true _ q HQ.out))).mono ?_
                rintro e1 W1 ⟨rfl, rfl⟩
                refine hK _ _ ?_
                clear hK K
                refine wpAnyIn_ready (rs := [0]) (by kernel_rfl) (by simp) ?_
                refine AllReadyIn.cons rfl (fun K hK => ?_) AllReadyIn.nil
                go_simp
                refine hK _ _ ?_
                clear hK K
                refine wpAnyIn_ready (rs := [5]) (by kernel_rfl) (by simp) ?_
                refine AllReadyIn.cons rfl (fun K hK => ?_) AllReadyIn.nil
                go_simp
                refine hK _ _ ?_
                clear hK K
                refine wpAnyIn_ready (rs := [6]) (by kernel_rfl) (by simp) ?_
                refine AllReadyIn.cons rfl (fun K hK => ?_) AllReadyIn.nil
                go_simp
                refine hK _ _ ?_
                clear hK K
                refine wpAnyIn_done (by kernel_rfl) ?_ _
                gi_wp2
                exact ⟨(((keepsOthers_below bD).trans (KeepsOthers.setCell _ _ _)).trans (KeepsOthers.setCell _ _ _)).from _, ((Mid.of_below (bD.mono hle)).setCell (p := ⟨V.heap.size, k, none⟩) (.inl ⟨Nat.le_refl _, by show V.heap.size < V.heap.size + 3;omega⟩) _).setCell (p := ⟨V.heap.size + 1 + 1, 0, none⟩) (.inl ⟨by show V.heap.size ≤ V.heap.size + 1 + 1;omega, by show V.heap.size + 1 + 1 < V.heap.size + 3;omega⟩) _, by show OrI V n (orS (wtA sl mg xs ys) (vals (pre ++ [⟨k, hkn⟩]))) _; rw [vals_snoc, orS_snoc, ← HWK.out, ← HWS.out, ← HQ.out]; exact hId.set hkn _ _⟩
        · go_simp
          refine hK _ _ ?_
          clear hK K
          refine wpAnyIn_ready (rs := [0, 1, 3]) (by kernel_rfl) (by simp) ?_
          refine AllReadyIn.cons rfl (fun K hK => ?_) (AllReadyIn.cons rfl (fun K hK => ?_) (AllReadyIn.cons rfl (fun K hK => ?_) AllReadyIn.nil))
          · go_simp
            refine hK _ _ ?_
            clear hK K
            refine wpAnyIn_ready (rs := [1, 3]) (by kernel_rfl) (by simp) ?_
            refine AllReadyIn.cons rfl (fun K hK => ?_) (AllReadyIn.cons rfl (fun K hK => ?_) AllReadyIn.nil)
            · go_simp
              refine hK _ _ ?_
              clear hK K
              refine wpAnyIn_ready (rs := [3]) (by kernel_rfl) (by simp) ?_
              refine AllReadyIn.cons rfl (fun K hK => ?_) AllReadyIn.nil
              go_simp
              refine hK _ _ ?_
              clear hK K
              refine wpAnyIn_ready (rs := [4]) (by kernel_rfl) (by simp) ?_
              refine AllReadyIn.cons rfl (fun K hK => ?_) AllReadyIn.nil
              go_simp
              refine ⟨trivial, ?_⟩
              refine (CallsIn.inRound l (callsIn_wide.2 (ob_t ws true _ q HQ.out))).mono ?_
              rintro e1 W1 ⟨rfl, rfl⟩
              refine hK _ _ ?_
              clear hK K
              refine wpAnyIn_ready (rs := [5]) (by kernel_rfl) (by simp) ?_
              refine AllReadyIn.cons rfl (fun K hK => ?_) AllReadyIn.nil
              go_simp
              refine hK _ _ ?_
              clear hK K
              refine wpAnyIn_ready (rs := [6]) (by kernel_rfl) (by simp) ?_
              refine AllReadyIn.cons rfl (fun K hK => ?_) AllReadyIn.nil
              go_simp
              refine hK _ _ ?_
              clear hK K
              refine wpAnyIn_done (by kernel_rfl) ?_ _
              gi_wp2
              exact ⟨(((keepsOthers_below bD).trans (KeepsOthers.setCell _ _ _)).trans (KeepsOthers.setCell _ _ _)).from _, ((Mid.of_below (bD.mono hle)).setCell (p := ⟨V.heap.size, k, none⟩) (.inl ⟨Nat.le_refl _, by show V.heap.size < V.heap.size + 3;omega⟩) _).setCell (p := ⟨V.heap.size + 1 + 1, 0, none⟩) (.inl ⟨by show V.heap.size ≤ V.heap.size + 1 + 1;omega, by show V.heap.size + 1 + 1 < V.heap.size + 3;omega⟩) _, by show OrI V n (orS (wtA sl mg xs ys) (vals (pre ++ [⟨k, hkn⟩]))) _; rw [vals_snoc, orS_snoc, ← HWK.out, ← HWS.out, ← HQ.out]; exact hId.set hkn _ _⟩
            · go_simp
              refine hK _ _ ?_
              clear hK K
              refine wpAnyIn_ready (rs := [1, 4]) (by kernel_rfl) (by simp) ?_
              refine AllReadyIn.cons rfl (fun K hK => ?_) (AllReadyIn.cons rfl (fun K hK => ?_) AllReadyIn.nil)
              · go_simp
                refine hK _ _ ?_
                clear hK K
                refine wpAnyIn_ready (rs := [4]) (by kernel_rfl) (by simp) ?_
                refine AllReadyIn.cons rfl (fun K hK => ?_) AllReadyIn.nil
                go_simp
                refine ⟨trivial, ?_⟩
                refine (CallsIn.inRound l (callsIn_wide.2 (ob_t ws true _ q HQ.out))).mono ?_
                rintro e1 W1 ⟨rfl, rfl⟩
                refine hK _ _ ?_
                clear hK K
                refine wpAnyIn_ready (rs := [5]) (by kernel_rfl) (by simp) ?_
                refine AllReadyIn.cons rfl (fun K hK => ?_) AllReadyIn.nil
                go_simp
                refine hK _ _ ?_
                clear hK K
                refine wpAnyIn_ready (rs := [6]) (by kernel_rfl) (by simp) ?_
                refine AllReadyIn.cons rfl (fun K hK => ?_) AllReadyIn.nil
                go_simp
                refine hK _ _ ?_
                clear hK K
                refine wpAnyIn_done (by kernel_rfl) ?_ _
                gi_wp2
                exact ⟨(((keepsOthers_below bD).trans (KeepsOthers.setCell _ _ _)).trans (KeepsOthers.setCell _ _ _)).from _, ((Mid.of_below (bD.mono hle)).setCell (p := ⟨V.heap.size, k, none⟩) (.inl ⟨Nat.le_refl _, by show V.heap.size < V.heap.size + 3;omega⟩) _).setCell (p := ⟨V.heap.size + 1 + 1, 0, none⟩) (.inl ⟨by show V.heap.size ≤ V.heap.size + 1 + 1;omega, by show V.heap.size + 1 + 1 < V.heap.size + 3;omega⟩) _, by show OrI V n (orS (wtA sl mg xs ys) (vals (pre ++ [⟨k, hkn⟩]))) _; rw [vals_snoc, orS_snoc, ← HWK.out, ← HWS.out, ← HQ.out]; exact hId.set hkn _ _⟩
              · go_simp
                refine ⟨trivial, ?_⟩
                refine (CallsIn.inRound l (callsIn_wide.2 (ob_t ws true _ q HQ.out))).mono ?_
                rintro e1 W1 ⟨rfl, rfl⟩
                refine hK _ _ ?_
                clear hK K
                refine wpAnyIn_ready (rs := [1]) (by kernel_rfl) (by simp) ?_
                refine AllReadyIn.cons rfl (fun K hK => ?_) AllReadyIn.nil
                go_simp
                refine hK _ _ ?_
                clear hK K
                refine wpAnyIn_ready (rs := [5]) (by kernel_rfl) (by simp) ?_
                refine AllReadyIn.cons rfl (fun K hK => ?_) AllReadyIn.nil
                go_simp
                refine hK _ _ ?_
                clear hK K
                refine wpAnyIn_ready (rs := [6]) (by kernel_rfl) (by simp) ?_
                refine AllReadyIn.cons rfl (fun K hK => ?_) AllReadyIn.nil
                go_simp
                refine hK _ _ ?_
                clear hK K
                refine wpAnyIn_done (by kernel_rfl) ?_ _
                gi_wp2
                exact ⟨(((keepsOthers_below bD).trans (KeepsOthers.setCell _ _ _)).trans (KeepsOthers.setCell _ _ _)).from _, ((Mid.of_below (bD.mono hle)).setCell (p := ⟨V.heap.size, k, none⟩) (.inl ⟨Nat.le_refl _, by show V.heap.size < V.heap.size + 3;omega⟩) _).setCell (p := ⟨V.heap.size + 1 + 1, 0, none⟩) (.inl ⟨by show V.heap.size ≤ V.heap.size + 1 + 1;omega, by show V.heap.size + 1 + 1 < V.heap.size + 3;omega⟩) _, by show OrI V n (orS (wtA sl mg xs ys) (vals (pre ++ [⟨k, hkn⟩]))) _; rw [vals_snoc, orS_snoc, ← HWK.out, ← HWS.out, ← HQ.out]; exact hId.set hkn _ _⟩
          · go_simp
            refine hK _ _ ?_
            clear hK K
            refine wpAnyIn_ready (rs := [0, 3]) (by kernel_rfl) (by simp) ?_
            refine AllReadyIn.cons rfl (fun K hK => ?_) (AllReadyIn.cons rfl (fun K hK => ?_) AllReadyIn.nil)
            · go_simp
              refine hK _ _ ?_
              clear hK K
              refine wpAnyIn_ready (rs := [3]) (by kernel_rfl) (by simp) ?_
              refine AllReadyIn.cons rfl (fun K hK => ?_) AllReadyIn.nil
              go_simp
              refine hK _ _ ?_
              clear hK K
              refine wpAnyIn_ready (rs := [4]) (by kernel_rfl) (by simp) ?_
              refine AllReadyIn.cons rfl (fun K hK => ?_) AllReadyIn.nil
              go_simp
              refine ⟨trivial, ?_⟩
              refine (CallsIn.inRound l (callsIn_wide.2 (ob_t ws true _ q HQ.out))).mono ?_
              rintro e1 W1 ⟨rfl, rfl⟩
              refine hK _ _ ?_
              clear hK K
              refine wpAnyIn_ready (rs := [5]) (by kernel_rfl) (by simp) ?_
              refine AllReadyIn.cons rfl (fun K hK => ?_) AllReadyIn.nil
              go_simp
              refine hK _ _ ?_
              clear hK K
              refine wpAnyIn_ready (rs := [6]) (by kernel_rfl) (by simp) ?_
              refine AllReadyIn.cons rfl (fun K hK => ?_) AllReadyIn.nil
              go_simp
              refine hK _ _ ?_
              clear hK K
              refine wpAnyIn_done (by kernel_rfl) ?_ _
              gi_wp2
              exact ⟨(((keepsOthers_below bD).trans (KeepsOthers.setCell _ _ _)).trans (KeepsOthers.setCell _ _ _)).from _, ((Mid.of_below (bD.mono hle)).setCell (p := ⟨V.heap.size, k, none⟩) (.inl ⟨Nat.le_refl _, by show V.heap.size < V.heap.size + 3;omega⟩) _).setCell (p := ⟨V.heap.size + 1 + 1, 0, none⟩) (.inl ⟨by show V.heap.size ≤ V.heap.size + 1 + 1;omega, by show V.heap.size + 1 + 1 < V.heap.size + 3;omega⟩) _, by show OrI V n (orS (wtA sl mg xs ys) (vals (pre ++ [⟨k, hkn⟩]))) _; rw [vals_snoc, orS_snoc, ← HWK.out, ← HWS.out, ← HQ.out]; exact hId.set hkn _ _⟩
            · go_simp
              refine hK _ _ ?_
              clear hK K
              refine wpAnyIn_ready (rs := [0, 4]) (by kernel_rfl) (by simp) ?_
              refine AllReadyIn.cons rfl (fun K hK => ?_) (AllReadyIn.cons rfl (fun K hK => ?_) AllReadyIn.nil)
              · go_simp
                refine hK _ _ ?_
                clear hK K
                refine wpAnyIn_ready (rs := [4]) (by kernel_rfl) (by simp) ?_
                refine AllReadyIn.cons rfl (fun K hK => ?_) AllReadyIn.nil
                go_simp
                refine ⟨trivial, ?_⟩
                refine (CallsIn.inRound l (callsIn_wide.2 (ob_t ws true _ q HQ.out))).mono ?_
                rintro e1 W1 ⟨rfl, rfl⟩
                refine hK _ _ ?_
                clear hK K
                refine wpAnyIn_ready (rs := [5]) (by kernel_rfl) (by simp) ?_
                refine AllReadyIn.cons rfl (fun K hK => ?_) AllReadyIn.nil
                go_simp
                refine hK _ _ ?_
                clear hK K
                refine wpAnyIn_ready (rs := [6]) (by kernel_rfl) (by simp) ?_
                refine AllReadyIn.cons rfl (fun K hK => ?_) AllReadyIn.nil
                go_simp
                refine hK _ _ ?_
                clear hK K
                refine wpAnyIn_done (by kernel_rfl) ?_ _
                gi_wp2
                exact ⟨(((keepsOthers_below bD).trans (KeepsOthers.setCell _ _ _)).trans (KeepsOthers.setCell _ _ _)).from _, ((Mid.of_below (bD.mono hle)).setCell (p := ⟨V.heap.size, k, none⟩) (.inl ⟨Nat.le_refl _, by show V.heap.size < V.heap.size + 3;omega⟩) _).setCell (p := ⟨V.heap.size + 1 + 1, 0, none⟩) (.inl ⟨by show V.heap.size ≤ V.heap.size + 1 + 1;omega, by show V.heap.size + 1 + 1 < V.heap.size + 3;omega⟩) _, by show OrI V n (orS (wtA sl mg xs ys) (vals (pre ++ [⟨k, hkn⟩]))) _; rw [vals_snoc, orS_snoc, ← HWK.out, ← HWS.out, ← HQ.out]; exact hId.set hkn _ _⟩
              · go_simp
                refine ⟨trivial, ?_⟩
                refine (CallsIn.inRound l (callsIn_wide.2 (ob_t ws true _ q HQ.out))).mono ?_
                rintro e1 W1 ⟨rfl, rfl⟩
                refine hK _ _ ?_
                clear hK K
                refine wpAnyIn_ready (rs := [0]) (by kernel_rfl) (by simp) ?_
                refine AllReadyIn.cons rfl (fun K hK => ?_) AllReadyIn.nil
                go_simp
                refine hK _ _ ?_
                clear hK K
                refine wpAnyIn_ready (rs := [5]) (by kernel_rfl) (by simp) ?_
                refine AllReadyIn.cons rfl (fun K hK => ?_) AllReadyIn.nil
                go_simp
                refine hK _ _ ?_
                clear hK K
                refine wpAnyIn_ready (rs := [6]) (by kernel_rfl) (by simp) ?_
                refine AllReadyIn.cons rfl (fun K hK => ?_) AllReadyIn.nil
                go_simp
                refine hK _ _ ?_
                clear hK K
                refine wpAnyIn_done (by kernel_rfl) ?_ _
                gi_wp2
                exact ⟨(((keepsOthers_below bD).trans (KeepsOthers.setCell _ _ _)).trans (KeepsOthers.setCell _ _ _)).from _, ((Mid.of_below (bD.mono hle)).setCell (p := ⟨V.heap.size, k, none⟩) (.inl ⟨Nat.le_refl _, by show V.heap.size < V.heap.size + 3;omega⟩) _).setCell (p := ⟨V.heap.size + 1 + 1, 0, none⟩) (.inl ⟨by show V.heap.size ≤ V.heap.size + 1 + 1;omega, by show V.heap.size + 1 + 1 < V.heap.size + 3;omega⟩) _, by show OrI V n (orS (wtA sl mg xs ys) (vals (pre ++ [⟨k, hkn⟩]))) _; rw [vals_snoc, orS_snoc, ← HWK.out, ← HWS.out, ← HQ.out]; exact hId.set hkn _ _⟩
          · go_simp
            refine hK _ _ ?_
            clear hK K
            refine wpAnyIn_ready (rs := [0, 1, 4]) (by kernel_rfl) (by simp) ?_
            refine AllReadyIn.cons rfl (fun K hK => ?_) (AllReadyIn.cons rfl (fun K hK => ?_) (AllReadyIn.cons rfl (fun K hK => ?_) AllReadyIn.nil))
            · go_simp
              refine hK _ _ ?_
              clear hK K
              refine wpAnyIn_ready (rs := [1, 4]) (by kernel_rfl) (by simp) ?_
              refine AllReadyIn.cons rfl (fun K hK => ?_) (AllReadyIn.cons rfl (fun K hK => ?_) AllReadyIn.nil)
              · go_simp
                refine hK _ _ ?_
                clear hK K
                refine wpAnyIn_ready (rs := [4]) (by kernel_rfl) (by simp) ?_
                refine AllReadyIn.cons rfl (fun K hK => ?_) AllReadyIn.nil
                go_simp
                refine ⟨trivial, ?_⟩
                refine (CallsIn.inRound l (callsIn_wide.2 (ob_t ws true _ q HQ.out))).mono ?_
                rintro e1 W1 ⟨rfl, rfl⟩
                refine hK _ _ ?_
                clear hK K
                refine wpAnyIn_ready (rs := [5]) (by kernel_rfl) (by simp) ?_
                refine AllReadyIn.cons rfl (fun K hK => ?_) AllReadyIn.nil
                go_simp
                refine hK _ _ ?_
                clear hK K
                refine wpAnyIn_ready (rs := [6]) (by kernel_rfl) (by simp) ?_
                refine AllReadyIn.cons rfl (fun K hK => ?_) AllReadyIn.nil
                go_simp
                refine hK _ _ ?_
                clear hK K
                refine wpAnyIn_done (by kernel_rfl) ?_ _
                gi_wp2
                exact ⟨(((keepsOthers_below bD).trans (KeepsOthers.setCell _ _ _)).trans (KeepsOthers.setCell _ _ _)).from _, ((Mid.of_below (bD.mono hle)).setCell (p := ⟨V.heap.size, k, none⟩) (.inl ⟨Nat.le_refl _, by show V.heap.size < V.heap.size + 3;omega⟩) _).setCell (p := ⟨V.heap.size + 1 + 1, 0, none⟩) (.inl ⟨by show V.heap.size ≤ V.heap.size + 1 + 1;omega, by show V.heap.size + 1 + 1 < V.heap.size + 3;omega⟩) _, by show OrI V n (orS (wtA sl mg xs ys) (vals (pre ++ [⟨k, hkn⟩]))) _; rw [vals_snoc, orS_snoc, ← HWK.out, ← HWS.out, ← HQ.out]; exact hId.set hkn _ _⟩
              · go_simp
                refine ⟨trivial, ?_⟩
                refine (CallsIn.inRound l (callsIn_wide.2 (ob_t ws true _ q HQ.out))).mono ?_
                rintro e1 W1 ⟨rfl, rfl⟩
                refine hK _ _ ?_
                clear hK K
                refine wpAnyIn_ready (rs := [1]) (by kernel_rfl) (by simp) ?_
                refine AllReadyIn.cons rfl (fun K hK => ?_) AllReadyIn.nil
                go_simp
                refine hK _ _ ?_
                clear hK K
                refine wpAnyIn_ready (rs := [5]) (by kernel_rfl) (by simp) ?_
                refine AllReadyIn.cons rfl (fun K hK => ?_) AllReadyIn.nil
                go_simp
                refine hK _ _ ?_
                clear hK K
                refine wpAnyIn_ready (rs := [6]) (by kernel_rfl) (by simp) ?_
                refine AllReadyIn.cons rfl (fun K hK => ?_) AllReadyIn.nil
                go_simp
                refine hK _ _ ?_
                clear hK K
                refine wpAnyIn_done (by kernel_rfl) ?_ _
                gi_wp2
                exact ⟨(((keepsOthers_below bD).trans (KeepsOthers.setCell _ _ _)).trans (KeepsOthers.setCell _ _ _)).from _, ((Mid.of_below (bD.mono hle)).setCell (p := ⟨V.heap.size, k, none⟩) (.inl ⟨Nat.le_refl _, by show V.heap.size < V.heap.size + 3;omega⟩) _).setCell (p := ⟨V.heap.size + 1 + 1, 0, none⟩) (.inl ⟨by show V.heap.size ≤ V.heap.size + 1 + 1;omega, by show V.heap.size + 1 + 1 < V.heap.size + 3;omega⟩) _, by show OrI V n (orS (wtA sl mg xs ys) (vals (pre ++ [⟨k, hkn⟩]))) _; rw [vals_snoc, orS_snoc, ← HWK.out, ← HWS.out, ← HQ.out]; exact hId.set hkn _ _⟩
            · go_simp
              refine hK _ _ ?_
              clear hK K
              refine wpAnyIn_ready (rs := [0, 4]) (by kernel_rfl) (by simp) ?_
              refine AllReadyIn.cons rfl (fun K hK => ?_) (AllReadyIn.cons rfl (fun K hK => ?_) AllReadyIn.nil)
              · go_simp
                refine hK _ _ ?_
                clear hK K
                refine wpAnyIn_ready (rs := [4]) (by kernel_rfl) (by simp) ?_
                refine AllReadyIn.cons rfl (fun K hK => ?_) AllReadyIn.nil
                go_simp
                refine ⟨trivial, ?_⟩
                refine (CallsIn.inRound l (callsIn_wide.2 (ob_t ws true _ q HQ.out))).mono ?_
                rintro e1 W1 ⟨rfl, rfl⟩
                refine hK _ _ ?_
                clear hK K
                refine wpAnyIn_ready (rs := [5]) (by kernel_rfl) (by simp) ?_
                refine AllReadyIn.cons rfl (fun K hK => ?_) AllReadyIn.nil
                go_simp
                refine hK _ _ ?_
                clear hK K
                refine wpAnyIn_ready (rs := [6]) (by kernel_rfl) (by simp) ?_
                refine AllReadyIn.cons rfl (fun K hK => ?_) AllReadyIn.nil
                go_simp
                refine hK _ _ ?_
                clear hK K
                refine wpAnyIn_done (by kernel_rfl) ?_ _
                gi_wp2
                exact ⟨(((keepsOthers_below bD).trans (KeepsOthers.setCell _ _ _)).trans (KeepsOthers.setCell _ _ _)).from _, ((Mid.of_below (bD.mono hle)).setCell (p := ⟨V.heap.size, k, none⟩) (.inl ⟨Nat.le_refl _, by show V.heap.size < V.heap.size + 3;omega⟩) _).setCell (p := ⟨V.heap.size + 1 + 1, 0, none⟩) (.inl ⟨by show V.heap.size ≤ V.heap.size + 1 + 1;omega, by show V.heap.size + 1 + 1 < V.heap.size + 3;omega⟩) _, by show OrI V n (orS (wtA sl mg xs ys) (vals (pre ++ [⟨k, hkn⟩]))) _; rw [vals_snoc, orS_snoc, ← HWK.out, ← HWS.out, ← HQ.out]; exact hId.set hkn _ _⟩
              · go_simp
                refine ⟨trivial, ?_⟩
                refine (CallsIn.inRound l (callsIn_wide.2 (ob_t ws true _ q HQ.out))).mono ?_
                rintro e1 W1 ⟨rfl, rfl⟩
                refine hK _ _ ?_
                clear hK K
                refine wpAnyIn_ready (rs := [0]) (by kernel_rfl) (by simp) ?_
                refine AllReadyIn.cons rfl (fun K hK => ?_) AllReadyIn.nil
                go_simp
                refine hK _ _ ?_
                clear hK K
                refine wpAnyIn_ready (rs := [5]) (by kernel_rfl) (by simp) ?_
                refine AllReadyIn.cons rfl (fun K hK => ?_) AllReadyIn.nil
                go_simp
                refine hK _ _ ?_
                clear hK K
                refine wpAnyIn_ready (rs := [6]) (by kernel_rfl) (by simp) ?_
                refine AllReadyIn.cons rfl (fun K hK => ?_) AllReadyIn.nil
                go_simp
                refine hK _ _ ?_
                clear hK K
                refine wpAnyIn_done (by kernel_rfl) ?_ _
                gi_wp2
                exact ⟨(((keepsOthers_below bD).trans (KeepsOthers.setCell _ _ _)).trans (KeepsOthers.setCell _ _ _)).from _, ((Mid.of_below (bD.mono hle)).setCell (p := ⟨V.heap.size, k, none⟩) (.inl ⟨Nat.le_refl _, by show V.heap.size < V.heap.size + 3;omega⟩) _).setCell (p := ⟨V.heap.size + 1 + 1, 0, none⟩) (.inl ⟨by show V.heap.size ≤ V.heap.size + 1 + 1;omega, by show V.heap.size + 1 + 1 < V.heap.size + 3;omega⟩) _, by show OrI V n (orS (wtA sl mg xs ys) (vals (pre ++ [⟨k, hkn⟩]))) _; rw [vals_snoc, orS_snoc, ← HWK.out, ← HWS.out, ← HQ.out]; exact hId.set hkn _ _⟩
            · go_simp
              refine ⟨trivial, ?_⟩
              refine (CallsIn.inRound l (callsIn_wide.2 (ob_t ws true _ q HQ.out))).mono ?_
              rintro e1 W1 ⟨rfl, rfl⟩
              refine hK _ _ ?_
              clear hK K
              refine wpAnyIn_ready (rs := [0, 1]) (by kernel_rfl) (by simp) ?_
              refine AllReadyIn.cons rfl (fun K hK => ?_) (AllReadyIn.cons rfl (fun K hK => ?_) AllReadyIn.nil)
              · go_simp
                refine hK _ _ ?_
                clear hK K
                refine wpAnyIn_ready (rs := [1]) (by kernel_rfl) (by simp) ?_
                refine AllReadyIn.cons rfl (fun K hK => ?_) AllReadyIn.nil
                go_simp
                refine hK _ _ ?_
                clear hK K
                refine wpAnyIn_ready (rs := [5]) (by kernel_rfl) (by simp) ?_
                refine AllReadyIn.cons rfl (fun K hK => ?_) AllReadyIn.nil
                go_simp
                refine hK _ _ ?_
                clear hK K
                refine wpAnyIn_ready (rs := [6]) (by kernel_rfl) (by simp) ?_
                refine AllReadyIn.cons rfl (fun K hK => ?_) AllReadyIn.nil
                go_simp
                refine hK _ _ ?_
                clear hK K
                refine wpAnyIn_done (by kernel_rfl) ?_ _
                gi_wp2
                exact ⟨(((keepsOthers_below bD).trans (KeepsOthers.setCell _ _ _)).trans (KeepsOthers.setCell _ _ _)).from _, ((Mid.of_below (bD.mono hle)).setCell (p := ⟨V.heap.size, k, none⟩) (.inl ⟨Nat.le_refl _, by show V.heap.size < V.heap.size + 3;omega⟩) _).setCell (p := ⟨V.heap.size + 1 + 1, 0, none⟩) (.inl ⟨by show V.heap.size ≤ V.heap.size + 1 + 1;omega, by show V.heap.size + 1 + 1 < V.heap.size + 3;omega⟩) _, by show OrI V n (orS (wtA sl mg xs ys) (vals (pre ++ [⟨k, hkn⟩]))) _; rw [vals_snoc, orS_snoc, ← HWK.out, ← HWS.out, ← HQ.out]; exact hId.set hkn _ _⟩
              · go_simp
                refine hK _ _ ?_
                clear hK K
                refine wpAnyIn_ready (rs := [0]) (by kernel_rfl) (by simp) ?_
                refine AllReadyIn.cons rfl (fun K hK => ?_) AllReadyIn.nil
                go_simp
                refine hK _ _ ?_
                clear hK K
                refine wpAnyIn_ready (rs := [5]) (by kernel_rfl) (by simp) ?_
                refine AllReadyIn.cons rfl (fun K hK => ?_) AllReadyIn.nil
                go_simp
                refine hK _ _ ?_
                clear hK K
                refine wpAnyIn_ready (rs := [6]) (by kernel_rfl) (by simp) ?_
                refine AllReadyIn.cons rfl (fun K hK => ?_) AllReadyIn.nil
                go_simp
                refine hK _ _ ?_
                clear hK K
                refine wpAnyIn_done (by kernel_rfl) ?_ _
                gi_wp2
                exact ⟨(((keepsOthers_below bD).trans (KeepsOthers.setCell _ _ _)).trans (KeepsOthers.setCell _ _ _)).from _, ((Mid.of_below (bD.mono hle)).setCell (p := ⟨V.heap.size, k, none⟩) (.inl ⟨Nat.le_refl _, by show V.heap.size < V.heap.size + 3;omega⟩) _).setCell (p := ⟨V.heap.size + 1 + 1, 0, none⟩) (.inl ⟨by show V.heap.size ≤ V.heap.size + 1 + 1;omega, by show V.heap.size + 1 + 1 < V.heap.size + 3;omega⟩) _, by show OrI V n (orS (wtA sl mg xs ys) (vals (pre ++ [⟨k, hkn⟩]))) _; rw [vals_snoc, orS_snoc, ← HWK.out, ← HWS.out, ← HQ.out]; exact hId.set hkn _ _⟩
        · go_simp
          refine hK _ _ ?_
          clear hK K
          refine wpAnyIn_ready (rs := [0, 1, 2]) (by kernel_rfl) (by simp) ?_
          refine AllReadyIn.cons rfl (fun K hK => ?_) (AllReadyIn.cons rfl (fun K hK => ?_) (AllReadyIn.cons rfl (fun K hK => ?_) AllReadyIn.nil))
          · go_simp
            refine hK _ _ ?_
            clear hK K
            refine wpAnyIn_ready (rs := [1, 2]) (by kernel_rfl) (by simp) ?_
            refine AllReadyIn.cons rfl (fun K hK => ?_) (AllReadyIn.cons rfl (fun K hK => ?_) AllReadyIn.nil)
            · go_simp
              refine hK _ _ ?_
              clear hK K
              refine wpAnyIn_ready (rs := [2]) (by kernel_rfl) (by simp) ?_
              refine AllReadyIn.cons rfl (fun K hK => ?_) AllReadyIn.nil
              go_simp
              refine hK _ _ ?_
              clear hK K
              refine wpAnyIn_ready (rs := [4]) (by kernel_rfl) (by simp) ?_
              refine AllReadyIn.cons rfl (fun K hK => ?_) AllReadyIn.nil
              go_simp
              refine ⟨trivial, ?_⟩
              refine (CallsIn.inRound l (callsIn_wide.2 (ob_t ws true _ q HQ.out))).mono ?_
              rintro e1 W1 ⟨rfl, rfl⟩
              refine hK _ _ ?_
              clear hK K
              refine wpAnyIn_ready (rs := [5]) (by kernel_rfl) (by simp) ?_
              refine AllReadyIn.cons rfl (fun K hK => ?_) AllReadyIn.nil
              go_simp
              refine hK _ _ ?_
              clear hK K
              refine wpAnyIn_ready (rs := [6]) (by kernel_rfl) (by simp) ?_
              refine AllReadyIn.cons rfl (fun K hK => ?_) AllReadyIn.nil
              go_simp
              refine hK _ _ ?_
              clear hK K
              refine wpAnyIn_done (by kernel_rfl) ?_ _
              gi_wp2
              exact ⟨(((keepsOthers_below bD).trans (KeepsOthers.setCell _ _ _)).trans (KeepsOthers.setCell _ _ _)).from _, ((Mid.of_below (bD.mono hle)).setCell (p := ⟨V.heap.size, k, none⟩) (.inl ⟨Nat.le_refl _, by show V.heap.size < V.heap.size + 3;omega⟩) _).setCell (p := ⟨V.heap.size + 1 + 1, 0, none⟩) (.inl ⟨by show V.heap.size ≤ V.heap.size + 1 + 1;omega, by show V.heap.size + 1 + 1 < V.heap.size + 3;omega⟩) _, by show OrI V n (orS (wtA sl mg xs ys) (vals (pre ++ [⟨k, hkn⟩]))) _; rw [vals_snoc, orS_snoc, ← HWK.out, ← HWS.out, ← HQ.out]; exact hId.set hkn _ _⟩
            · go_simp
              refine hK _ _ ?_
              clear hK K
              refine wpAnyIn_ready (rs := [1, 4]) (by kernel_rfl) (by simp) ?_
              refine AllReadyIn.cons rfl (fun K hK => ?_) (AllReadyIn.cons rfl (fun K hK => ?_) AllReadyIn.nil)
              · go_simp
                refine hK _ _ ?_
                clear hK K
                refine wpAnyIn_ready (rs := [4]) (by kernel_rfl) (by simp) ?_
                refine AllReadyIn.cons rfl (fun K hK => ?_) AllReadyIn.nil
                go_simp
                refine ⟨trivial, ?_⟩
                refine (CallsIn.inRound l (callsIn_wide.2 (ob_t ws true _ q HQ.out))).mono ?_
                rintro e1 W1 ⟨rfl, rfl⟩
                refine hK _ _ ?_
                clear hK K
                refine wpAnyIn_ready (rs := [5]) (by kernel_rfl) (by simp) ?_
                refine AllReadyIn.cons rfl (fun K hK => ?_) AllReadyIn.nil
                go_simp
                refine hK _ _ ?_
                clear hK K
                refine wpAnyIn_ready (rs := [6]) (by kernel_rfl) (by simp) ?_
                refine AllReadyIn.cons rfl (fun K hK => ?_) AllReadyIn.nil
                go_simp
                refine hK _ _ ?_
                clear hK K
                refine wpAnyIn_done (by kernel_rfl) ?_ _
                gi_wp2
                exact ⟨(((keepsOthers_below bD).trans (KeepsOthers.setCell _ _ _)).trans (KeepsOthers.setCell _ _ _)).from _, ((Mid.of_below (bD.mono hle)).setCell (p := ⟨V.heap.size, k, none⟩) (.inl ⟨Nat.le_refl _, by show V.heap.size < V.heap.size + 3;omega⟩) _).setCell (p := ⟨V.heap.size + 1 + 1, 0, none⟩) (.inl ⟨by show V.heap.size ≤ V.heap.size + 1 + 1;omega, by show V.heap.size + 1 + 1 < V.heap.size + 3;omega⟩) _, by show OrI V n (orS (wtA sl mg xs ys) (vals (pre ++ [⟨k, hkn⟩]))) _; rw [vals_snoc, orS_snoc, ← HWK.out, ← HWS.out, ← HQ.out]; exact hId.set hkn _ _⟩
              · go_simp
                refine ⟨trivial, ?_⟩
                refine (CallsIn.inRound l (callsIn_wide.2 (ob_t ws true _ q HQ.out))).mono ?_
                rintro e1 W1 ⟨rfl, rfl⟩
                refine hK _ _ ?_
                clear hK K
                refine wpAnyIn_ready (rs := [1]) (by kernel_rfl) (by simp) ?_
                refine AllReadyIn.cons rfl (fun K hK => ?_) AllReadyIn.nil
                go_simp
                refine hK _ _ ?_
                clear hK K
                refine wpAnyIn_ready (rs := [5]) (by kernel_rfl) (by simp) ?_
                refine AllReadyIn.cons rfl (fun K hK => ?_) AllReadyIn.nil
                go_simp
                refine hK _ _ ?_
                clear hK K
                refine wpAnyIn_ready (rs := [6]) (by kernel_rfl) (by simp) ?_
                refine AllReadyIn.cons rfl (fun K hK => ?_) AllReadyIn.nil
                go_simp
                refine hK _ _ ?_
                clear hK K
                refine wpAnyIn_done (by kernel_rfl) ?_ _
                gi_wp2
                exact ⟨(((keepsOthers_below bD).trans (KeepsOthers.setCell _ _ _)).trans (KeepsOthers.setCell _ _ _)).from _, ((Mid.of_below (bD.mono hle)).setCell (p := ⟨V.heap.size, k, none⟩) (.inl ⟨Nat.le_refl _, by show V.heap.size < V.heap.size + 3;omega⟩) _).setCell (p := ⟨V.heap.size + 1 + 1, 0, none⟩) (.inl ⟨by show V.heap.size ≤ V.heap.size + 1 + 1;omega, by show V.heap.size + 1 + 1 < V.heap.size + 3;omega⟩) _, by show OrI V n (orS (wtA sl mg xs ys) (vals (pre ++ [⟨k, hkn⟩]))) _; rw [vals_snoc, orS_snoc, ← HWK.out, ← HWS.out, ← HQ.out]; exact hId.set hkn _ _⟩
          · go_simp
            refine hK _ _ ?_
            clear hK K
            refine wpAnyIn_ready (rs := [0, 2]) (by kernel_rfl) (by simp) ?_
            refine AllReadyIn.cons rfl (fun K hK => ?_) (AllReadyIn.cons rfl (fun K hK => ?_) AllReadyIn.nil)
            · go_simp
              refine hK _ _ ?_
              clear hK K
              refine wpAnyIn_ready (rs := [2]) (by kernel_rfl) (by simp) ?_
              refine AllReadyIn.cons rfl (fun K hK => ?_) AllReadyIn.nil
              go_simp
              refine hK _ _ ?_
              clear hK K
              refine wpAnyIn_ready (rs := [4]) (by kernel_rfl) (by simp) ?_
              refine AllReadyIn.cons rfl (fun K hK => ?_) AllReadyIn.nil
              go_simp
              refine ⟨trivial, ?_⟩
              refine (CallsIn.inRound l (callsIn_wide.2 (ob_t ws true _ q HQ.out))).mono ?_
              rintro e1 W1 ⟨rfl, rfl⟩
              refine hK _ _ ?_
              clear hK K
              refine wpAnyIn_ready (rs := [5]) (by kernel_rfl) (by simp) ?_
              refine AllReadyIn.cons rfl (fun K hK => ?_) AllReadyIn.nil
              go_simp
              refine hK _ _ ?_
              clear hK K
              refine wpAnyIn_ready (rs := [6]) (by kernel_rfl) (by simp) ?_
              refine AllReadyIn.cons rfl (fun K hK => ?_) AllReadyIn.nil
              go_simp
              refine hK _ _ ?_
              clear hK K
              refine wpAnyIn_done (by kernel_rfl) ?_ _
              gi_wp2
              exact ⟨(((keepsOthers_below bD).trans (KeepsOthers.setCell _ _ _)).trans (KeepsOthers.setCell _ _ _)).from _, ((Mid.of_below (bD.mono hle)).setCell (p := ⟨V.heap.size, k, none⟩) (.inl ⟨Nat.le_refl _, by show V.heap.size < V.heap.size + 3;omega⟩) _).setCell (p := ⟨V.heap.size + 1 + 1, 0, none⟩) (.inl ⟨by show V.heap.size ≤ V.heap.size + 1 + 1;omega, by show V.heap.size + 1 + 1 < V.heap.size + 3;omega⟩) _, by show OrI V n (orS (wtA sl mg xs ys) (vals (pre ++ [⟨k, hkn⟩]))) _; rw [vals_snoc, orS_snoc, ← HWK.out, ← HWS.out, ← HQ.out]; exact hId.set hkn _ _⟩
            · go_simp
              refine hK _ _ ?_
              clear hK K
              refine wpAnyIn_ready (rs := [0, 4]) (by kernel_rfl) (by simp) ?_
              refine AllReadyIn.cons rfl (fun K hK => ?_) (AllReadyIn.cons rfl (fun K hK => ?_) AllReadyIn.nil)
              · go_simp
                refine hK _ _ ?_
                clear hK K
                refine wpAnyIn_ready (rs := [4]) (by kernel_rfl) (by simp) ?_
                refine AllReadyIn.cons rfl (fun K hK => ?_) AllReadyIn.nil
                go_simp
                refine ⟨trivial, ?_⟩
                refine (CallsIn.inRound l (callsIn_wide.2 (ob_t ws true _ q HQ.out))).mono ?_
                rintro e1 W1 ⟨rfl, rfl⟩
                refine hK _ _ ?_
                clear hK K
                refine wpAnyIn_ready (rs := [5]) (by kernel_rfl) (by simp) ?_
                refine AllReadyIn.cons rfl (fun K hK => ?_) AllReadyIn.nil
                go_simp
                refine hK _ _ ?_
                clear hK K
                refine wpAnyIn_ready (rs := [6]) (by kernel_rfl) (by simp) ?_
                refine AllReadyIn.cons rfl (fun K hK => ?_) AllReadyIn.nil
                go_simp
                refine hK _ _ ?_
                clear hK K
                refine wpAnyIn_done (by kernel_rfl) ?_ _
                gi_wp2
                exact ⟨(((keepsOthers_below bD).trans (KeepsOthers.setCell _ _ _)).trans (KeepsOthers.setCell _ _ _)).from _, ((Mid.of_below (bD.mono hle)).setCell (p := ⟨V.heap.size, k, none⟩) (.inl ⟨Nat.le_refl _, by show V.heap.size < V.heap.size + 3;omega⟩) _).setCell (p := ⟨V.heap.size + 1 + 1, 0, none⟩) (.inl ⟨by show V.heap.size ≤ V.heap.size + 1 + 1;omega, by show V.heap.size + 1 + 1 < V.heap.size + 3;omega⟩) _, by show OrI V n (orS (wtA sl mg xs ys) (vals (pre ++ [⟨k, hkn⟩]))) _; rw [vals_snoc, orS_snoc, ← HWK.out, ← HWS.out, ← HQ.out]; exact hId.set hkn _ _⟩
              · go_simp
                refine ⟨trivial, ?_⟩
                refine (CallsIn.inRound l (callsIn_wide.2 (ob_t ws true _ q HQ.out))).mono ?_
                rintro e1 W1 ⟨rfl, rfl⟩
                refine hK _ _ ?_
                clear hK K
                refine wpAnyIn_ready (rs := [0]) (by kernel_rfl) (by simp) ?_
                refine AllReadyIn.cons rfl (fun K hK => ?_) AllReadyIn.nil
                go_simp
                refine hK _ _ ?_
                clear hK K
                refine wpAnyIn_ready (rs := [5]) (by kernel_rfl) (by simp) ?_
                refine AllReadyIn.cons rfl (fun K hK => ?_) AllReadyIn.nil
                go_simp
                refine hK _ _ ?_
                clear hK K
                refine wpAnyIn_ready (rs := [6]) (by kernel_rfl) (by simp) ?_
                refine AllReadyIn.cons rfl (fun K hK => ?_) AllReadyIn.nil
                go_simp
                refine hK _ _ ?_
                clear hK K
                refine wpAnyIn_done (by kernel_rfl) ?_ _
                gi_wp2
                exact ⟨(((keepsOthers_below bD).trans (KeepsOthers.setCell _ _ _)).trans (KeepsOthers.setCell _ _ _)).from _, ((Mid.of_below (bD.mono hle)).setCell (p := ⟨V.heap.size, k, none⟩) (.inl ⟨Nat.le_refl _, by show V.heap.size < V.heap.size + 3;omega⟩) _).setCell (p := ⟨V.heap.size + 1 + 1, 0, none⟩) (.inl ⟨by show V.heap.size ≤ V.heap.size + 1 + 1;omega, by show V.heap.size + 1 + 1 < V.heap.size + 3;omega⟩) _, by show OrI V n (orS (wtA sl mg xs ys) (vals (pre ++ [⟨k, hkn⟩]))) _; rw [vals_snoc, orS_snoc, ← HWK.out, ← HWS.out, ← HQ.out]; exact hId.set hkn _ _⟩
          · go_simp
            refine hK _ _ ?_
            clear hK K
            refine wpAnyIn_ready (rs := [0, 1, 4]) (by kernel_rfl) (by simp) ?_
            refine AllReadyIn.cons rfl (fun K hK => ?_) (AllReadyIn.cons rfl (fun K hK => ?_) (AllReadyIn.cons rfl (fun K hK => ?_) AllReadyIn.nil))
            · go_simp
              refine hK _ _ ?_
              clear hK K
              refine wpAnyIn_ready (rs := [1, 4]) (by kernel_rfl) (by simp) ?_
              refine AllReadyIn.cons rfl (fun K hK => ?_) (AllReadyIn.cons rfl (fun K hK => ?_) AllReadyIn.nil)
              · go_simp
                refine hK _ _ ?_
                clear hK K
                refine wpAnyIn_ready (rs := [4]) (by kernel_rfl) (by simp) ?_
                refine AllReadyIn.cons rfl (fun K hK => ?_) AllReadyIn.nil
                go_simp
                refine ⟨trivial, ?_⟩
                refine (CallsIn.inRound l (callsIn_wide.2 (ob_t ws true _ q HQ.out))).mono ?_
                rintro e1 W1 ⟨rfl, rfl⟩
                refine hK _ _ ?_
                clear hK K
                refine wpAnyIn_ready (rs := [5]) (by kernel_rfl) (by simp) ?_
                refine AllReadyIn.cons rfl (fun K hK => ?_) AllReadyIn.nil
                go_simp
                refine hK _ _ ?_
                clear hK K
                refine wpAnyIn_ready (rs := [6]) (by kernel_rfl) (by simp) ?_
                refine AllReadyIn.cons rfl (fun K hK => ?_) AllReadyIn.nil
                go_simp
                refine hK _ _ ?_
                clear hK K
                refine wpAnyIn_done (by kernel_rfl) ?_ _
                gi_wp2
                exact ⟨(((keepsOthers_below bD).trans (KeepsOthers.setCell _ _ _)).trans (KeepsOthers.setCell _ _ _)).from _, ((Mid.of_below (bD.mono hle)).setCell (p := ⟨V.heap.size, k, none⟩) (.inl ⟨Nat.le_refl _, by show V.heap.size < V.heap.size + 3;omega⟩) _).setCell (p := ⟨V.heap.size + 1 + 1, 0, none⟩) (.inl ⟨by show V.heap.size ≤ V.heap.size + 1 + 1;omega, by show V.heap.size + 1 + 1 < V.heap.size + 3;omega⟩) _, by show OrI V n (orS (wtA sl mg xs ys) (vals (pre ++ [⟨k, hkn⟩]))) _; rw [vals_snoc, orS_snoc, ← HWK.out, ← HWS.out, ← HQ.out]; exact hId.set hkn _ _⟩
              · go_simp
                refine ⟨trivial, ?_⟩
                refine (CallsIn.inRound l (callsIn_wide.2 (ob_t ws true _ q HQ.out))).mono ?_
                rintro e1 W1 ⟨rfl, rfl⟩
                refine hK _ _ ?_
                clear hK K
                refine wpAnyIn_ready (rs := [1]) (by kernel_rfl) (by simp) ?_
                refine AllReadyIn.cons rfl (fun K hK => ?_) AllReadyIn.nil
                go_simp
                refine hK _ _ ?_
                clear hK K
                refine wpAnyIn_ready (rs := [5]) (by kernel_rfl) (by simp) ?_
                refine AllReadyIn.cons rfl (fun K hK => ?_) AllReadyIn.nil
                go_simp
                refine hK _ _ ?_
                clear hK K
                refine wpAnyIn_ready (rs := [6]) (by kernel_rfl) (by simp) ?_
                refine AllReadyIn.cons rfl (fun K hK => ?_) AllReadyIn.nil
                go_simp
                refine hK _ _ ?_
                clear hK K
                refine wpAnyIn_done (by kernel_rfl) ?_ _
                gi_wp2
                exact ⟨(((keepsOthers_below bD).trans (KeepsOthers.setCell _ _ _)).trans (KeepsOthers.setCell _ _ _)).from _, ((Mid.of_below (bD.mono hle)).setCell (p := ⟨V.heap.size, k, none⟩) (.inl ⟨Nat.le_refl _, by show V.heap.size < V.heap.size + 3;omega⟩) _).setCell (p := ⟨V.heap.size + 1 + 1, 0, none⟩) (.inl ⟨by show V.heap.size ≤ V.heap.size + 1 + 1;omega, by show V.heap.size + 1 + 1 < V.heap.size + 3;omega⟩) _, by show OrI V n (orS (wtA sl mg xs ys) (vals (pre ++ [⟨k, hkn⟩]))) _; rw [vals_snoc, orS_snoc, ← HWK.out, ← HWS.out, ← HQ.out]; exact hId.set hkn _ _⟩
            · go_simp
              refine hK _ _ ?_
              clear hK K
              refine wpAnyIn_ready (rs := [0, 4]) (by kernel_rfl) (by simp) ?_
              refine AllReadyIn.cons rfl (fun K hK => ?_) (AllReadyIn.cons rfl (fun K hK => ?_) AllReadyIn.nil)
              · go_simp
                refine hK _ _ ?_
                clear hK K
                refine wpAnyIn_ready (rs := [4]) (by kernel_rfl) (by simp) ?_
                refine AllReadyIn.cons rfl (fun K hK => ?_) AllReadyIn.nil
                go_simp
                refine ⟨trivial, ?_⟩
                refine (CallsIn.inRound l (callsIn_wide.2 (ob_t ws true _ q HQ.out))).mono ?_
                rintro e1 W1 ⟨rfl, rfl⟩
                refine hK _ _ ?_
                clear hK K
                refine wpAnyIn_ready (rs := [5]) (by kernel_rfl) (by simp) ?_
                refine AllReadyIn.cons rfl (fun K hK => ?_) AllReadyIn.nil
                go_simp
                refine hK _ _ ?_
                clear hK K
                refine wpAnyIn_ready (rs := [6]) (by kernel_rfl) (by simp) ?_
                refine AllReadyIn.cons rfl (fun K hK => ?_) AllReadyIn.nil
                go_simp
                refine hK _ _ ?_
                clear hK K
                refine wpAnyIn_done (by kernel_rfl) ?_ _
                gi_wp2
                exact ⟨(((keepsOthers_below bD).trans (KeepsOthers.setCell _ _ _)).trans (KeepsOthers.setCell _ _ _)).from _, ((Mid.of_below (bD.mono hle)).setCell (p := ⟨V.heap.size, k, none⟩) (.inl ⟨Nat.le_refl _, by show V.heap.size < V.heap.size + 3;omega⟩) _).setCell (p := ⟨V.heap.size + 1 + 1, 0, none⟩) (.inl ⟨by show V.heap.size ≤ V.heap.size + 1 + 1;omega, by show V.heap.size + 1 + 1 < V.heap.size + 3;omega⟩) _, by show OrI V n (orS (wtA sl mg xs ys) (vals (pre ++ [⟨k, hkn⟩]))) _; rw [vals_snoc, orS_snoc, ← HWK.out, ← HWS.out, ← HQ.out]; exact hId.set hkn _ _⟩
              · go_simp
                refine ⟨trivial, ?_⟩
                refine (CallsIn.inRound l (callsIn_wide.2 (ob_t ws true _ q HQ.out))).mono ?_
                rintro e1 W1 ⟨rfl, rfl⟩
                refine hK _ _ ?_
                clear hK K
                refine wpAnyIn_ready (rs := [0]) (by kernel_rfl) (by simp) ?_
                refine AllReadyIn.cons rfl (fun K hK => ?_) AllReadyIn.nil
                go_simp
                refine hK _ _ ?_
                clear hK K
                refine wpAnyIn_ready (rs := [5]) (by kernel_rfl) (by simp) ?_
                refine AllReadyIn.cons rfl (fun K hK => ?_) AllReadyIn.nil
                go_simp
                refine hK _ _ ?_
                clear hK K
                refine wpAnyIn_ready (rs := [6]) (by kernel_rfl) (by simp) ?_
                refine AllReadyIn.cons rfl (fun K hK => ?_) AllReadyIn.nil
                go_simp
                refine hK _ _ ?_
                clear hK K
                refine wpAnyIn_done (by kernel_rfl) ?_ _
                gi_wp2
                exact ⟨(((keepsOthers_below bD).trans (KeepsOthers.setCell _ _ _)).trans (KeepsOthers.setCell _ _ _)).from _, ((Mid.of_below (bD.mono hle)).setCell (p := ⟨V.heap.size, k, none⟩) (.inl ⟨Nat.le_refl _, by show V.heap.size < V.heap.size + 3;omega⟩) _).setCell (p := ⟨V.heap.size + 1 + 1, 0, none⟩) (.inl ⟨by show V.heap.size ≤ V.heap.size + 1 + 1;omega, by show V.heap.size + 1 + 1 < V.heap.size + 3;omega⟩) _, by show OrI V n (orS (wtA sl mg xs ys) (vals (pre ++ [⟨k, hkn⟩]))) _; rw [vals_snoc, orS_snoc, ← HWK.out, ← HWS.out, ← HQ.out]; exact hId.set hkn _ _⟩
            · go_simp
              refine ⟨trivial, ?_⟩
              refine (CallsIn.inRound l (callsIn_wide.2 (ob_t ws true _ q HQ.out))).mono ?_
              rintro e1 W1 ⟨rfl, rfl⟩
              refine hK _ _ ?_
              clear hK K
              refine wpAnyIn_ready (rs := [0, 1]) (by kernel_rfl) (by simp) ?_
              refine AllReadyIn.cons rfl (fun K hK => ?_) (AllReadyIn.cons rfl (fun K hK => ?_) AllReadyIn.nil)
              · go_simp
                refine hK _ _ ?_
                clear hK K
                refine wpAnyIn_ready (rs := [1]) (by kernel_rfl) (by simp) ?_
                refine AllReadyIn.cons rfl (fun K hK => ?_) AllReadyIn.nil
                go_simp
                refine hK _ _ ?_
                clear hK K
                refine wpAnyIn_ready (rs := [5]) (by kernel_rfl) (by simp) ?_
                refine AllReadyIn.cons rfl (fun K hK => ?_) AllReadyIn.nil
                go_simp
                refine hK _ _ ?_
                clear hK K
                refine wpAnyIn_ready (rs := [6]) (by kernel_rfl) (by simp) ?_
                refine AllReadyIn.cons rfl (fun K hK => ?_) AllReadyIn.nil
                go_simp
                refine hK _ _ ?_
                clear hK K
                refine wpAnyIn_done (by kernel_rfl) ?_ _
                gi_wp2
                exact ⟨(((keepsOthers_below bD).trans (KeepsOthers.setCell _ _ _)).trans (KeepsOthers.setCell _ _ _)).from _, ((Mid.of_below (bD.mono hle)).setCell (p := ⟨V.heap.size, k, none⟩) (.inl ⟨Nat.le_refl _, by show V.heap.size < V.heap.size + 3;omega⟩) _).setCell (p := ⟨V.heap.size + 1 + 1, 0, none⟩) (.inl ⟨by show V.heap.size ≤ V.heap.size + 1 + 1;omega, by show V.heap.size + 1 + 1 < V.heap.size + 3;omega⟩) _, by show OrI V n (orS (wtA sl mg xs ys) (vals (pre ++ [⟨k, hkn⟩]))) _; rw [vals_snoc, orS_snoc, ← HWK.out, ← HWS.out, ← HQ.out]; exact hId.set hkn _ _⟩
              · go_simp
                refine hK _ _ ?_
                clear hK K
                refine wpAnyIn_ready (rs := [0]) (by kernel_rfl) (by simp) ?_
                refine AllReadyIn.cons rfl (fun K hK => ?_) AllReadyIn.nil
                go_simp
                refine hK _ _ ?_
                clear hK K
                refine wpAnyIn_ready (rs := [5]) (by kernel_rfl) (by simp) ?_
                refine AllReadyIn.cons rfl (fun K hK => ?_) AllReadyIn.nil
                go_simp
                refine hK _ _ ?_
                clear hK K
                refine wpAnyIn_ready (rs := [6]) (by kernel_rfl) (by simp) ?_
                refine AllReadyIn.cons rfl (fun K hK => ?_) AllReadyIn.nil
                go_simp
                refine hK _ _ ?_
                clear hK K
                refine wpAnyIn_done (by kernel_rfl) ?_ _
                gi_wp2
                exact ⟨(((keepsOthers_below bD).trans (KeepsOthers.setCell _ _ _)).trans (KeepsOthers.setCell _ _ _)).from _, ((Mid.of_below (bD.mono hle)).setCell (p := ⟨V.heap.size, k, none⟩) (.inl ⟨Nat.le_refl _, by show V.heap.size < V.heap.size + 3;omega⟩) _).setCell (p := ⟨V.heap.size + 1 + 1, 0, none⟩) (.inl ⟨by show V.heap.size ≤ V.heap.size + 1 + 1;omega, by show V.heap.size + 1 + 1 < V.heap.size + 3;omega⟩) _, by show OrI V n (orS (wtA sl mg xs ys) (vals (pre ++ [⟨k, hkn⟩]))) _; rw [vals_snoc, orS_snoc, ← HWK.out, ← HWS.out, ← HQ.out]; exact hId.set hkn _ _⟩
      · have q1 : decide (u - v ≥ mg) = true := by simp;omega
        have q2 : decide (u > sl) = false := by simp;omega
        obtain rfl : wk = false := by rw [hwk]; first | exact decide_eq_true ⟨by omega, by omega⟩ | exact decide_eq_false (by omega)
        clear hwk
        gi_wp2
        refine wpIn_region_any hmx ?_
        change wpAnyIn _ _ _ _ _ _ _ _ _ (World.drew W)
        generalize World.drew W = Wd at bD hId b0d b1d cbd cwd rwd rfd fwd ⊢
        refine wpAnyIn_ready (rs := [0, 1, 2, 3]) (by kernel_rfl) (by simp) ?_
        refine AllReadyIn.cons rfl (fun K hK => ?_) (AllReadyIn.cons rfl (fun K hK => ?_) (AllReadyIn.cons rfl (fun K hK => ?_) (AllReadyIn.cons rfl (fun K hK => ?_) AllReadyIn.nil)))
        · go_simp
          refine hK _ _ ?_
          clear hK K
          refine wpAnyIn_ready (rs := [1, 2, 3]) (by kernel_rfl) (by simp) ?_
          refine AllReadyIn.cons rfl (fun K hK => ?_) (AllReadyIn.cons rfl (fun K hK => ?_) (AllReadyIn.cons rfl (fun K hK => ?_) AllReadyIn.nil))
          · go_simp
            refine hK _ _ ?_
            clear hK K
            refine wpAnyIn_ready (rs := [2, 3]) (by kernel_rfl) (by simp) ?_
            refine AllReadyIn.cons rfl (fun K hK => ?_) (AllReadyIn.cons rfl (fun K hK => ?_) AllReadyIn.nil)
            · go_simp
              refine hK _ _ ?_
              clear hK K
              refine wpAnyIn_ready (rs := [3]) (by kernel_rfl) (by simp) ?_
              refine AllReadyIn.cons rfl (fun K hK => ?_) AllReadyIn.nil
              go_simp
              refine hK _ _ ?_
              clear hK K
              refine wpAnyIn_ready (rs := [4]) (by kernel_rfl) (by simp) ?_
              refine AllReadyIn.cons rfl (fun K hK => ?_) AllReadyIn.nil
              go_simp
              refine ⟨trivial, ?_⟩
              refine (CallsIn.inRound l (callsIn_wide.2 (ob_t ws false _ q HQ.out))).mono ?_
              rintro e1 W1 ⟨rfl, rfl⟩
              refine hK _ _ ?_
              clear hK K
              refine wpAnyIn_ready (rs := [5]) (by kernel_rfl) (by simp) ?_
              refine AllReadyIn.cons rfl (fun K hK => ?_) AllReadyIn.nil
              go_simp
              refine hK _ _ ?_
              clear hK K
              refine wpAnyIn_ready (rs := [6]) (by kernel_rfl) (by simp) ?_
              refine AllReadyIn.cons rfl (fun K hK => ?_) AllReadyIn.nil
              go_simp
              refine hK _ _ ?_
              clear hK K
              refine wpAnyIn_done (by kernel_rfl) ?_ _
              gi_wp2
              exact ⟨(((keepsOthers_below bD).trans (KeepsOthers.setCell _ _ _)).trans (KeepsOthers.setCell _ _ _)).from _, ((Mid.of_below (bD.mono hle)).setCell (p := ⟨V.heap.size, k, none⟩) (.inl ⟨Nat.le_refl _, by show V.heap.size < V.heap.size + 3;omega⟩) _).setCell (p := ⟨V.heap.size + 1 + 1, 0, none⟩) (.inl ⟨by show V.heap.size ≤ V.heap.size + 1 + 1;omega, by show V.heap.size + 1 + 1 < V.heap.size + 3;omega⟩) _, by show OrI V n (orS (wtA sl mg xs ys) (vals (pre ++ [⟨k, hkn⟩]))) _; rw [vals_snoc, orS_snoc, ← HWK.out, ← HWS.out, ← HQ.out]; exact hId.set hkn _ _⟩
            · go_simp
              refine hK _ _ ?_
              clear hK K
              refine wpAnyIn_ready (rs := [2]) (by kernel_rfl) (by simp) ?_
              refine AllReadyIn.cons rfl (fun K hK => ?_) AllReadyIn.nil
              go_simp
              refine hK _ _ ?_
              clear hK K
              refine wpAnyIn_ready (rs := [4]) (by kernel_rfl) (by simp) ?_
              refine AllReadyIn.cons rfl (fun K hK => ?_) AllReadyIn.nil
              go_simp
              refine ⟨trivial, ?_⟩
              refine (CallsIn.inRound l (callsIn_wide.2 (ob_t ws false _ q HQ.out))).mono ?_
              rintro e1 W1 ⟨rfl, rfl⟩
              refine hK _ _ ?_
              clear hK K
              refine wpAnyIn_ready (rs := [5]) (by kernel_rfl) (by simp) ?_
              refine AllReadyIn.cons rfl (fun K hK => ?_) AllReadyIn.nil
              go_simp
              refine hK _ _ ?_
              clear hK K
              refine wpAnyIn_ready (rs := [6]) (by kernel_rfl) (by simp) ?_
              refine AllReadyIn.cons rfl (fun K hK => ?_) AllReadyIn.nil
              go_simp
              refine hK _ _ ?_
              clear hK K
              refine wpAnyIn_done (by kernel_rfl) ?_ _
              gi_wp2
              exact ⟨(((keepsOthers_below bD).trans (KeepsOthers.setCell _ _ _)).trans (KeepsOthers.setCell _ _ _)).from _, ((Mid.of_below (bD.mono hle)).setCell (p := ⟨V.heap.size, k, none⟩) (.inl ⟨Nat.le_refl _, by show V.heap.size < V.heap.size + 3;omega⟩) _).setCell (p := ⟨V.heap.size + 1 + 1, 0, none⟩) (.inl ⟨by show V.heap.size ≤ V.heap.size + 1 + 1;omega, by show V.heap.size + 1 + 1 < V.heap.size + 3;omega⟩) _, by show OrI V n (orS (wtA sl mg xs ys) (vals (pre ++ [⟨k, hkn⟩]))) _; rw [vals_snoc, orS_snoc, ← HWK.out, ← HWS.out, ← HQ.out]; exact hId.set hkn _ _⟩
          · go_simp
            refine hK _ _ ?_
            clear hK K
            refine wpAnyIn_ready (rs := [1, 3]) (by kernel_rfl) (by simp) ?_
            refine AllReadyIn.cons rfl (fun K hK => ?_) (AllReadyIn.cons rfl (fun K hK => ?_) AllReadyIn.nil)
            · go_simp
              refine hK _ _ ?_
              clear hK K
              refine wpAnyIn_ready (rs := [3]) (by kernel_rfl) (by simp) ?_
              refine AllReadyIn.cons rfl (fun K hK => ?_) AllReadyIn.nil
              go_simp
              refine hK _ _ ?_
              clear hK K
              refine wpAnyIn_ready (rs := [4]) (by kernel_rfl) (by simp) ?_
              refine AllReadyIn.cons rfl (fun K hK => ?_) AllReadyIn.nil
              go_simp
              refine ⟨trivial, ?_⟩
              refine (CallsIn.inRound l (callsIn_wide.2 (ob_t ws false _ q HQ.out))).mono ?_
              rintro e1 W1 ⟨rfl, rfl⟩
              refine hK _ _ ?_
              clear hK K
              refine wpAnyIn_ready (rs := [5]) (by kernel_rfl) (by simp) ?_
              refine AllReadyIn.cons rfl (fun K hK => ?_) AllReadyIn.nil
              go_simp
              refine hK _ _ ?_
              clear hK K
              refine wpAnyIn_ready (rs := [6]) (by kernel_rfl) (by simp) ?_
              refine AllReadyIn.cons rfl (fun K hK => ?_) AllReadyIn.nil
              go_simp
              refine hK _ _ ?_
              clear hK K
              refine wpAnyIn_done (by kernel_rfl) ?_ _
              gi_wp2
              exact ⟨(((keepsOthers_below bD).trans (KeepsOthers.setCell _ _ _)).trans (KeepsOthers.setCell _ _ _)).from _, ((Mid.of_below (bD.mono hle)).setCell (p := ⟨V.heap.size, k, none⟩) (.inl ⟨Nat.le_refl _, by show V.heap.size < V.heap.size + 3;omega⟩) _).setCell (p := ⟨V.heap.size + 1 + 1, 0, none⟩) (.inl ⟨by show V.heap.size ≤ V.heap.size + 1 + 1;omega, by show V.heap.size + 1 + 1 < V.heap.size + 3;omega⟩) _, by show OrI V n (orS (wtA sl mg xs ys) (vals (pre ++ [⟨k, hkn⟩]))) _; rw [vals_snoc, orS_snoc, ← HWK.out, ← HWS.out, ← HQ.out]; exact hId.set hkn _ _⟩
            · go_simp
              refine hK _ _ ?_
              clear hK K
              refine wpAnyIn_ready (rs := [1, 4]) (by kernel_rfl) (by simp) ?_
              refine AllReadyIn.cons rfl (fun K hK => ?_) (AllReadyIn.cons rfl (fun K hK => ?_) AllReadyIn.nil)
              · go_simp
                refine hK _ _ ?_
                clear hK K
                refine wpAnyIn_ready (rs := [4]) (by kernel_rfl) (by simp) ?_
                refine AllReadyIn.cons rfl (fun K hK => ?_) AllReadyIn.nil
                go_simp
                refine ⟨trivial, ?_⟩
                refine (CallsIn.inRound l (callsIn_wide.2 (ob_t ws false _ q HQ.out))).mono ?_
                rintro e1 W1 ⟨rfl, rfl⟩
                refine hK _ _ ?_
                clear hK K
                refine wpAnyIn_ready (rs := [5]) (by kernel_rfl) (by simp) ?_
                refine AllReadyIn.cons rfl (fun K hK => ?_) AllReadyIn.nil
                go_simp
                refine hK _ _ ?_
                clear hK K
                refine wpAnyIn_ready (rs := [6]) (by kernel_rfl) (by simp) ?_
                refine AllReadyIn.cons rfl (fun K hK => ?_) AllReadyIn.nil
                go_simp
                refine hK _ _ ?_
                clear hK K
                refine wpAnyIn_done (by kernel_rfl) ?_ _
                gi_wp2
                exact ⟨(((keepsOthers_below bD).trans (KeepsOthers.setCell _ _ _)).trans (KeepsOthers.setCell _ _ _)).from _, ((Mid.of_below (bD.mono hle)).setCell (p := ⟨V.heap.size, k, none⟩) (.inl ⟨Nat.le_refl _, by show V.heap.size < V.heap.size + 3;omega⟩) _).setCell (p := ⟨V.heap.size + 1 + 1, 0, none⟩) (.inl ⟨by show V.heap.size ≤ V.heap.size + 1 + 1;omega, by show V.heap.size + 1 + 1 < V.heap.size + 3;omega⟩) _, by show OrI V n (orS (wtA sl mg xs ys) (vals (pre ++ [⟨k, hkn⟩]))) _; rw [vals_snoc, orS_snoc, ← HWK.out, ← HWS.out, ← HQ.out]; exact hId.set hkn _ _⟩
              · go_simp
                refine ⟨trivial, ?_⟩
                refine (CallsIn.inRound l (callsIn_wide.2 (ob_t ws false _ q HQ.out))).mono ?_
                rintro e1 W1 ⟨rfl, rfl⟩
                refine hK _ _ ?_
                clear hK K
                refine wpAnyIn_ready (rs := [1]) (by kernel_rfl) (by simp) ?_
                refine AllReadyIn.cons rfl (fun K hK => ?_) AllReadyIn.nil
                go_simp
                refine hK _ _ ?_
                clear hK K
                refine wpAnyIn_ready (rs := [5]) (by kernel_rfl) (by simp) ?_
                refine AllReadyIn.cons rfl (fun K hK => ?_) AllReadyIn.nil
                go_simp
                refine hK _ _ ?_
                clear hK K
                refine wpAnyIn_ready (rs := [6]) (by kernel_rfl) (by simp) ?_
                refine AllReadyIn.cons rfl (fun K hK => ?_) AllReadyIn.nil
                go_simp
                refine hK _ _ ?_
                clear hK K
                refine wpAnyIn_done (by kernel_rfl) ?_ _
                gi_wp2
                exact ⟨(((keepsOthers_below bD).trans (KeepsOthers.setCell _ _ _)).trans (KeepsOthers.setCell _ _ _)).from _, ((Mid.of_below (bD.mono hle)).setCell (p := ⟨V.heap.size, k, none⟩) (.inl ⟨Nat.le_refl _, by show V.heap.size < V.heap.size + 3;omega⟩) _).setCell (p := ⟨V.heap.size + 1 + 1, 0, none⟩) (.inl ⟨by show V.heap.size ≤ V.heap.size + 1 + 1;omega, by show V.heap.size + 1 + 1 < V.heap.size + 3;omega⟩) _, by show OrI V n (orS (wtA sl mg xs ys) (vals (pre ++ [⟨k, hkn⟩]))) _; rw [vals_snoc, orS_snoc, ← HWK.out, ← HWS.out, ← HQ.out]; exact hId.set hkn _ _⟩
          · go_simp
            refine hK _ _ ?_
            clear hK K
            refine wpAnyIn_ready (rs := [1, 2]) (by kernel_rfl) (by simp) ?_
            refine AllReadyIn.cons rfl (fun K hK => ?_) (AllReadyIn.cons rfl (fun K hK => ?_) AllReadyIn.nil)
            · go_simp
              refine hK _ _ ?_
              clear hK K
              refine wpAnyIn_ready (rs := [2]) (by kernel_rfl) (by simp) ?_
              refine AllReadyIn.cons rfl (fun K hK => ?_) AllReadyIn.nil
              go_simp
              refine hK _ _ ?_
              clear hK K
              refine wpAnyIn_ready (rs := [4]) (by kernel_rfl) (by simp) ?_
              refine AllReadyIn.cons rfl (fun K hK => ?_) AllReadyIn.nil
              go_simp
              refine ⟨trivial, ?_⟩
              refine (CallsIn.inRound l (callsIn_wide.2 (ob_t ws false _ q HQ.out))).mono ?_
              rintro e1 W1 ⟨rfl, rfl⟩
              refine hK _ _ ?_
              clear hK K
              refine wpAnyIn_ready (rs := [5]) (by kernel_rfl) (by simp) ?_
              refine AllReadyIn.cons rfl (fun K hK => ?_) AllReadyIn.nil
              go_simp
              refine hK _ _ ?_
              clear hK K
              refine wpAnyIn_ready (rs := [6]) (by kernel_rfl) (by simp) ?_
              refine AllReadyIn.cons rfl (fun K hK => ?_) AllReadyIn.nil
              go_simp
              refine hK _ _ ?_
              clear hK K
              refine wpAnyIn_done (by kernel_rfl) ?_ _
              gi_wp2
              exact ⟨(((keepsOthers_below bD).trans (KeepsOthers.setCell _ _ _)).trans (KeepsOthers.setCell _ _ _)).from _, ((Mid.of_below (bD.mono hle)).setCell (p := ⟨V.heap.size, k, none⟩) (.inl ⟨Nat.le_refl _, by show V.heap.size < V.heap.size + 3;omega⟩) _).setCell (p := ⟨V.heap.size + 1 + 1, 0, none⟩) (.inl ⟨by show V.heap.size ≤ V.heap.size + 1 + 1;omega, by show V.heap.size + 1 + 1 < V.heap.size + 3;omega⟩) _, by show OrI V n (orS (wtA sl mg xs ys) (vals (pre ++ [⟨k, hkn⟩]))) _; rw [vals_snoc, orS_snoc, ← HWK.out, ← HWS.out, ← HQ.out]; exact hId.set hkn _ _⟩
            · go_simp
              refine hK _ _ ?_
              clear hK K
              refine wpAnyIn_ready (rs := [1, 4]) (by kernel_rfl) (by simp) ?_
              refine AllReadyIn.cons rfl (fun K hK => ?_) (AllReadyIn.cons rfl (fun K hK => ?_) AllReadyIn.nil)
              · go_simp
                refine hK _ _ ?_
                clear hK K
                refine wpAnyIn_ready (rs := [4]) (by kernel_rfl) (by simp) ?_
                refine AllReadyIn.cons rfl (fun K hK => ?_) AllReadyIn.nil
                go_simp
                refine ⟨trivial, ?_⟩
                refine (CallsIn.inRound l (callsIn_wide.2 (ob_t ws false _ q HQ.out))).mono ?_
                rintro e1 W1 ⟨rfl, rfl⟩
                refine hK _ _ ?_
                clear hK K
                refine wpAnyIn_ready (rs := [5]) (by kernel_rfl) (by simp) ?_
                refine AllReadyIn.cons rfl (fun K hK => ?_) AllReadyIn.nil
                go_simp
                refine hK _ _ ?_
                clear hK K
                refine wpAnyIn_ready (rs := [6]) (by kernel_rfl) (by simp) ?_
                refine AllReadyIn.cons rfl (fun K hK => ?_) AllReadyIn.nil
                go_simp
                refine hK _ _ ?_
                clear hK K
                refine wpAnyIn_done (by kernel_rfl) ?_ _
                gi_wp2
                exact ⟨(((keepsOthers_below bD).trans (KeepsOthers.setCell _ _ _)).trans (KeepsOthers.setCell _ _ _)).from _, ((Mid.of_below (bD.mono hle)).setCell (p := ⟨V.heap.size, k, none⟩) (.inl ⟨Nat.le_refl _, by show V.heap.size < V.heap.size + 3;omega⟩) _).setCell (p := ⟨V.heap.size + 1 + 1, 0, none⟩) (.inl ⟨by show V.heap.size ≤ V.heap.size + 1 + 1;omega, by show V.heap.size + 1 + 1 < V.heap.size + 3;omega⟩) _, by show OrI V n (orS (wtA sl mg xs ys) (vals (pre ++ [⟨k, hkn⟩]))) _; rw [vals_snoc, orS_snoc, ← HWK.out, ← HWS.out, ← HQ.out]; exact hId.set hkn _ _⟩
              · go_simp
                refine ⟨trivial, ?_⟩
                refine (CallsIn.inRound l (callsIn_wide.2 (ob_t ws false _ q HQ.out))).mono ?_
                rintro e1 W1 ⟨rfl, rfl⟩
                refine hK _ _ ?_
                clear hK K
                refine wpAnyIn_ready (rs := [1]) (by kernel_rfl) (by simp) ?_
                refine AllReadyIn.cons rfl (fun K hK => ?_) AllReadyIn.nil
                go_simp
                refine hK _ _ ?_
                clear hK K
                refine wpAnyIn_ready (rs := [5]) (by kernel_rfl) (by simp) ?_
                refine AllReadyIn.cons rfl (fun K hK => ?_) AllReadyIn.nil
                go_simp
                refine hK _ _ ?_
                clear hK K
                refine wpAnyIn_ready (rs := [6]) (by kernel_rfl) (by simp) ?_
                refine AllReadyIn.cons rfl (fun K hK => ?_) AllReadyIn.nil
                go_simp
                refine hK _ _ ?_
                clear hK K
                refine wpAnyIn_done (by kernel_rfl) ?_ _
                gi_wp2
                exact ⟨(((keepsOthers_below bD).trans (KeepsOthers.setCell _ _ _)).trans (KeepsOthers.setCell _ _ _)).from _, ((Mid.of_below (bD.mono hle)).setCell (p := ⟨V.heap.size, k, none⟩) (.inl ⟨Nat.le_refl _, by show V.heap.size < V.heap.size + 3;omega⟩) _).setCell (p := ⟨V.heap.size + 1 + 1, 0, none⟩) (.inl ⟨by show V.heap.size ≤ V.heap.size + 1 + 1;omega, by show V.heap.size + 1 + 1 < V.heap.size + 3;omega⟩) _, by show OrI V n (orS (wtA sl mg xs ys) (vals (pre ++ [⟨k, hkn⟩]))) _; rw [vals_snoc, orS_snoc, ← HWK.out, ← HWS.out, ← HQ.out]; exact hId.set hkn _ _⟩
        · go_simp
          refine hK _ _ ?_
          clear hK K
          refine wpAnyIn_ready (rs := [0, 2, 3]) (by kernel_rfl) (by simp) ?_
          refine AllReadyIn.cons rfl (fun K hK => ?_) (AllReadyIn.cons rfl (fun K hK => ?_) (AllReadyIn.cons rfl (fun K hK => ?_) AllReadyIn.nil))
          · go_simp
            refine hK _ _ ?_
            clear hK K
            refine wpAnyIn_ready (rs := [2, 3]) (by kernel_rfl) (by simp) ?_
            refine AllReadyIn.cons rfl (fun K hK => ?_) (AllReadyIn.cons rfl (fun K hK => ?_) AllReadyIn.nil)
            · go_simp
              refine hK _ _ ?_
              clear hK K
              refine wpAnyIn_ready (rs := [3]) (by kernel_rfl) (by simp) ?_
              refine AllReadyIn.cons rfl (fun K hK => ?_) AllReadyIn.nil
              go_simp
              refine hK _ _ ?_
              clear hK K
              refine wpAnyIn_ready (rs := [4]) (by kernel_rfl) (by simp) ?_
              refine AllReadyIn.cons rfl (fun K hK => ?_) AllReadyIn.nil
              go_simp
              refine ⟨trivial, ?_⟩
              refine (CallsIn.inRound l (callsIn_wide.2 (ob_t ws false _ q HQ.out))).mono ?_
              rintro e1 W1 ⟨rfl, rfl⟩
              refine hK _ _ ?_
              clear hK K
              refine wpAnyIn_ready (rs := [5]) (by kernel_rfl) (by simp) ?_
              refine AllReadyIn.cons rfl (fun K hK => ?_) AllReadyIn.nil
              go_simp
              refine hK _ _ ?_
              clear hK K
              refine wpAnyIn_ready (rs := [6]) (by kernel_rfl) (by simp) ?_
              refine AllReadyIn.cons rfl (fun K hK => ?_) AllReadyIn.nil
              go_simp
              refine hK _ _ ?_
              clear hK K
              refine wpAnyIn_done (by kernel_rfl) ?_ _
              gi_wp2
              exact ⟨(((keepsOthers_below bD).trans (KeepsOthers.setCell _ _ _)).trans (KeepsOthers.setCell _ _ _)).from _, ((Mid.of_below (bD.mono hle)).setCell (p := ⟨V.heap.size, k, none⟩) (.inl ⟨Nat.le_refl _, by show V.heap.size < V.heap.size + 3;omega⟩) _).setCell (p := ⟨V.heap.size + 1 + 1, 0, none⟩) (.inl ⟨by show V.heap.size ≤ V.heap.size + 1 + 1;omega, by show V.heap.size + 1 + 1 < V.heap.size + 3;omega⟩) _, by show OrI V n (orS (wtA sl mg xs ys) (vals (pre ++ [⟨k, hkn⟩]))) _; rw [vals_snoc, orS_snoc, ← HWK.out, ← HWS.out, ← HQ.out]; exact hId.set hkn _ _⟩
            · go_simp
              refine hK _ _ ?_
              clear hK K
              refine wpAnyIn_ready (rs := [2]) (by kernel_rfl) (by simp) ?_
              refine AllReadyIn.cons rfl (fun K hK => ?_) AllReadyIn.nil
              go_simp
              refine hK _ _ ?_
              clear hK K
              refine wpAnyIn_ready (rs := [4]) (by kernel_rfl) (by simp) ?_
              refine AllReadyIn.cons rfl (fun K hK => ?_) AllReadyIn.nil
              go_simp
              refine ⟨trivial, ?_⟩
              refine (CallsIn.inRound l (callsIn_wide.2 (ob_t ws false _ q HQ.out))).mono ?_
              rintro e1 W1 ⟨rfl, rfl⟩
              refine hK _ _ ?_
              clear hK K
              refine wpAnyIn_ready (rs := [5]) (by kernel_rfl) (by simp) ?_
              refine AllReadyIn.cons rfl (fun K hK => ?_) AllReadyIn.nil
              go_simp
              refine hK _ _ ?_
              clear hK K
              refine wpAnyIn_ready (rs := [6]) (by kernel_rfl) (by simp) ?_
              refine AllReadyIn.cons rfl (fun K hK => ?_) AllReadyIn.nil
              go_simp
              refine hK _ _ ?_
              clear hK K
              refine wpAnyIn_done (by kernel_rfl) ?_ _
              gi_wp2
              exact ⟨(((keepsOthers_below bD).trans (KeepsOthers.setCell _ _ _)).trans (KeepsOthers.setCell _ _ _)).from _, ((Mid.of_below (bD.mono hle)).setCell (p := ⟨V.heap.size, k, none⟩) (.inl ⟨Nat.le_refl _, by show V.heap.size < V.heap.size + 3;omega⟩) _).setCell (p := ⟨V.heap.size + 1 + 1, 0, none⟩) (.inl ⟨by show V.heap.size ≤ V.heap.size + 1 + 1;omega, by show V.heap.size + 1 + 1 < V.heap.size + 3;omega⟩) _, by show OrI V n (orS (wtA sl mg xs ys) (vals (pre ++ [⟨k, hkn⟩]))) _; rw [vals_snoc, orS_snoc, ← HWK.out, ← HWS.out, ← HQ.out]; exact hId.set hkn _ _⟩
          · go_simp
            refine hK _ _ ?_
            clear hK K
            refine wpAnyIn_ready (rs := [0, 3]) (by kernel_rfl) (by simp) ?_
            refine AllReadyIn.cons rfl (fun K hK => ?_) (AllReadyIn.cons rfl (fun K hK => ?_) AllReadyIn.nil)
            · go_simp
              refine hK _ _ ?_
              clear hK K
              refine wpAnyIn_ready (rs := [3]) (by kernel_rfl) (by simp) ?_
              refine AllReadyIn.cons rfl (fun K hK => ?_) AllReadyIn.nil
              go_simp
              refine hK _ _ ?_
              clear hK K
              refine wpAnyIn_ready (rs := [4]) (by kernel_rfl) (by simp) ?_
              refine AllReadyIn.cons rfl (fun K hK => ?_) AllReadyIn.nil
              go_simp
              refine ⟨trivial, ?_⟩
              refine (CallsIn.inRound l (callsIn_wide.2 (ob_t ws false _ q HQ.out))).mono ?_
              rintro e1 W1 ⟨rfl, rfl⟩
              refine hK _ _ ?_
              clear hK K
              refine wpAnyIn_ready (rs := [5]) (by kernel_rfl) (by simp) ?_
              refine AllReadyIn.cons rfl (fun K hK => ?_) AllReadyIn.nil
              go_simp
              refine hK _ _ ?_
              clear hK K
              refine wpAnyIn_ready (rs := [6]) (by kernel_rfl) (by simp) ?_
              refine AllReadyIn.cons rfl (fun K hK => ?_) AllReadyIn.nil
              go_simp
              refine hK _ _ ?_
              clear hK K
              refine wpAnyIn_done (by kernel_rfl) ?_ _
              gi_wp2
              exact ⟨(((keepsOthers_below bD).trans (KeepsOthers.setCell _ _ _)).trans (KeepsOthers.setCell _ _ _)).from _, ((Mid.of_below (bD.mono hle)).setCell (p := ⟨V.heap.size, k, none⟩) (.inl ⟨Nat.le_refl _, by show V.heap.size < V.heap.size + 3;omega⟩) _).setCell (p := ⟨V.heap.size + 1 + 1, 0, none⟩) (.inl ⟨by show V.heap.size ≤ V.heap.size + 1 + 1;omega, by show V.heap.size + 1 + 1 < V.heap.size + 3;omega⟩) _, by show OrI V n (orS (wtA sl mg xs ys) (vals (pre ++ [⟨k, hkn⟩]))) _; rw [vals_snoc, orS_snoc, ← HWK.out, ← HWS.out, ← HQ.out]; exact hId.set hkn _ _⟩
            · go_simp
              refine hK _ _ ?_
              clear hK K
              refine wpAnyIn_ready (rs := [0, 4]) (by kernel_rfl) (by simp) ?_
              refine AllReadyIn.cons rfl (fun K hK => ?_) (AllReadyIn.cons rfl (fun K hK => ?_) AllReadyIn.nil)
              · go_simp
                refine hK _ _ ?_
                clear hK K
                refine wpAnyIn_ready (rs := [4]) (by kernel_rfl) (by simp) ?_
                refine AllReadyIn.cons rfl (fun K hK => ?_) AllReadyIn.nil
                go_simp
                refine ⟨trivial, ?_⟩
                refine (CallsIn.inRound l (callsIn_wide.2 (ob_t ws false _ q HQ.out))).mono ?_
                rintro e1 W1 ⟨rfl, rfl⟩
                refine hK _ _ ?_
                clear hK K
                refine wpAnyIn_ready (rs := [5]) (by kernel_rfl) (by simp) ?_
                refine AllReadyIn.cons rfl (fun K hK => ?_) AllReadyIn.nil
                go_simp
                refine hK _ _ ?_
                clear hK K
                refine wpAnyIn_ready (rs := [6]) (by kernel_rfl) (by simp) ?_
                refine AllReadyIn.cons rfl (fun K hK => ?_) AllReadyIn.nil
                go_simp
                refine hK _ _ ?_
                clear hK K
                refine wpAnyIn_done (by kernel_rfl) ?_ _
                gi_wp2
                exact ⟨(((keepsOthers_below bD).trans (KeepsOthers.setCell _ _ _)).trans (KeepsOthers.setCell _ _ _)).from _, ((Mid.of_below (bD.mono hle)).setCell (p := ⟨V.heap.size, k, none⟩) (.inl ⟨Nat.le_refl _, by show V.heap.size < V.heap.size + 3;omega⟩) _).setCell (p := ⟨V.heap.size + 1 + 1, 0, none⟩) (.inl ⟨by show V.heap.size ≤ V.heap.size + 1 + 1;omega, by show V.heap.size + 1 + 1 < V.heap.size + 3;omega⟩) _, by show OrI V n (orS (wtA sl mg xs ys) (vals (pre ++ [⟨k, hkn⟩]))) _; rw [vals_snoc, orS_snoc, ← HWK.out, ← HWS.out, ← HQ.out]; exact hId.set hkn _ _⟩
              · go_simp
                refine ⟨trivial, ?_⟩
                refine (CallsIn.inRound l (callsIn_wide.2 (ob_t ws false _ q HQ.out))).mono ?_
                rintro e1 W1 ⟨rfl, rfl⟩
                refine hK _ _ ?_
                clear hK K
                refine wpAnyIn_ready (rs := [0]) (by kernel_rfl) (by simp) ?_
                refine AllReadyIn.cons rfl (fun K hK => ?_) AllReadyIn.nil
                go_simp
                refine hK _ _ ?_
                clear hK K
                refine wpAnyIn_ready (rs := [5]) (by kernel_rfl) (by simp) ?_
                refine AllReadyIn.cons rfl (fun K hK => ?_) AllReadyIn.nil
                go_simp
                refine hK _ _ ?_
                clear hK K
                refine wpAnyIn_ready (rs := [6]) (by kernel_rfl) (by simp) ?_
                refine AllReadyIn.cons rfl (fun K hK => ?_) AllReadyIn.nil
                go_simp
                refine hK _ _ ?_
                clear hK K
                refine wpAnyIn_done (by kernel_rfl) ?_ _
                gi_wp2
                exact ⟨(((keepsOthers_below bD).trans (KeepsOthers.setCell _ _ _)).trans (KeepsOthers.setCell _ _ _)).from _, ((Mid.of_below (bD.mono hle)).setCell (p := ⟨V.heap.size, k, none⟩) (.inl ⟨Nat.le_refl _, by show V.heap.size < V.heap.size + 3;omega⟩) _).setCell (p := ⟨V.heap.size + 1 + 1, 0, none⟩) (.inl ⟨by show V.heap.size ≤ V.heap.size + 1 + 1;omega, by show V.heap.size + 1 + 1 < V.heap.size + 3;omega⟩) _, by show OrI V n (orS (wtA sl mg xs ys) (vals (pre ++ [⟨k, hkn⟩]))) _; rw [vals_snoc, orS_snoc, ← HWK.out, ← HWS.out, ← HQ.out]; exact hId.set hkn _ _⟩
          · go_simp
            refine hK _ _ ?_
            clear hK K
            refine wpAnyIn_ready (rs := [0, 2]) (by kernel_rfl) (by simp) ?_
            refine AllReadyIn.cons rfl (fun K hK => ?_) (AllReadyIn.cons rfl (fun K hK => ?_) AllReadyIn.nil)
            · go_simp
              refine hK _ _ ?_
              clear hK K
              refine wpAnyIn_ready (rs := [2]) (by kernel_rfl) (by simp) ?_
              refine AllReadyIn.cons rfl (fun K hK => ?_) AllReadyIn.nil
              go_simp
              refine hK _ _ ?_
              clear hK K
              refine wpAnyIn_ready (rs := [4]) (by kernel_rfl) (by simp) ?_
              refine AllReadyIn.cons rfl (fun K hK => ?_) AllReadyIn.nil
              go_simp
              refine ⟨trivial, ?_⟩
              refine (CallsIn.inRound l (callsIn_wide.2 (ob_t ws false _ q HQ.out))).mono ?_
              rintro e1 W1 ⟨rfl, rfl⟩
              refine hK _ _ ?_
              clear hK K
              refine wpAnyIn_ready (rs := [5]) (by kernel_rfl) (by simp) ?_
              refine AllReadyIn.cons rfl (fun K hK => ?_) AllReadyIn.nil
              go_simp
              refine hK _ _ ?_
              clear hK K
              refine wpAnyIn_ready (rs := [6]) (by kernel_rfl) (by simp) ?_
              refine AllReadyIn.cons rfl (fun K hK => ?_) AllReadyIn.nil
              go_simp
              refine hK _ _ ?_
              clear hK K
              refine wpAnyIn_done (by kernel_rfl) ?_ _
              gi_wp2
              exact ⟨(((keepsOthers_below bD).trans (KeepsOthers.setCell _ _ _)).trans (KeepsOthers.setCell _ _ _)).from _, ((Mid.of_below (bD.mono hle)).setCell (p := ⟨V.heap.size, k, none⟩) (.inl ⟨Nat.le_refl _, by show V.heap.size < V.heap.size + 3;omega⟩) _).setCell (p := ⟨V.heap.size + 1 + 1, 0, none⟩) (.inl ⟨by show V.heap.size ≤ V.heap.size + 1 + 1;omega, by show V.heap.size + 1 + 1 < V.heap.size + 3;omega⟩) _, by show OrI V n (orS (wtA sl mg xs ys) (vals (pre ++ [⟨k, hkn⟩]))) _; rw [vals_snoc, orS_snoc, ← HWK.out, ← HWS.out, ← HQ.out]; exact hId.set hkn _ _⟩
            · go_simp
              refine hK _ _ ?_
              clear hK K
              refine wpAnyIn_ready (rs := [0, 4]) (by kernel_rfl) (by simp) ?_
              refine AllReadyIn.cons rfl (fun K hK => ?_) (AllReadyIn.cons rfl (fun K hK => ?_) AllReadyIn.nil)
              · go_simp
                refine hK _ _ ?_
                clear hK K
                refine wpAnyIn_ready (rs := [4]) (by kernel_rfl) (by simp) ?_
                refine AllReadyIn.cons rfl (fun K hK => ?_) AllReadyIn.nil
                go_simp
                refine ⟨trivial, ?_⟩
                refine (CallsIn.inRound l (callsIn_wide.2 (ob_t ws false _ q HQ.out))).mono ?_
                rintro e1 W1 ⟨rfl, rfl⟩
                refine hK _ _ ?_
                clear hK K
                refine wpAnyIn_ready (rs := [5]) (by kernel_rfl) (by simp) ?_
                refine AllReadyIn.cons rfl (fun K hK => ?_) AllReadyIn.nil
                go_simp
                refine hK _ _ ?_
                clear hK K
                refine wpAnyIn_ready (rs := [6]) (by kernel_rfl) (by simp) ?_
                refine AllReadyIn.cons rfl (fun K hK => ?_) AllReadyIn.nil
                go_simp
                refine hK _ _ ?_
                clear hK K
                refine wpAnyIn_done (by kernel_rfl) ?_ _
                gi_wp2
                exact ⟨(((keepsOthers_below bD).trans (KeepsOthers.setCell _ _ _)).trans (KeepsOthers.setCell _ _ _)).from _, ((Mid.of_below (bD.mono hle)).setCell (p := ⟨V.heap.size, k, none⟩) (.inl ⟨Nat.le_refl _, by show V.heap.size < V.heap.size + 3;omega⟩) _).setCell (p := ⟨V.heap.size + 1 + 1, 0, none⟩) (.inl ⟨by show V.heap.size ≤ V.heap.size + 1 + 1;omega, by show V.heap.size + 1 + 1 < V.heap.size + 3;omega⟩) _, by show OrI V n (orS (wtA sl mg xs ys) (vals (pre ++ [⟨k, hkn⟩]))) _; rw [vals_snoc, orS_snoc, ← HWK.out, ← HWS.out, ← HQ.out]; exact hId.set hkn _ _⟩
              · go_simp
                refine ⟨trivial, ?_⟩
                refine (CallsIn.inRound l (callsIn_wide.2 (ob_t ws false _ q HQ.out))).mono ?_
                rintro e1 W1 ⟨rfl, rfl⟩
                refine hK _ _ ?_
                clear hK K
                refine wpAnyIn_ready (rs := [0]) (by kernel_rfl) (by simp) ?_
                refine AllReadyIn.cons rfl (fun K hK => ?_) AllReadyIn.nil
                go_simp
                refine hK _ _ ?_
                clear hK K
                refine wpAnyIn_ready (rs := [5]) (by kernel_rfl) (by simp) ?_
                refine AllReadyIn.cons rfl (fun K hK => ?_) AllReadyIn.nil
                go_simp
                refine hK _ _ ?_
                clear hK K
                refine wpAnyIn_ready (rs := [6]) (by kernel_rfl) (by simp) ?_
                refine AllReadyIn.cons rfl (fun K hK => ?_) AllReadyIn.nil
                go_simp
                refine hK _ _ ?_
                clear hK K
                refine wpAnyIn_done (by kernel_rfl) ?_ _
                gi_wp2
                exact ⟨(((keepsOthers_below bD).trans (KeepsOthers.setCell _ _ _)).trans (KeepsOthers.setCell _ _ _)).from _, ((Mid.of_below (bD.mono hle)).setCell (p := ⟨V.heap.size, k, none⟩) (.inl ⟨Nat.le_refl _, by show V.heap.size < V.heap.size + 3;omega⟩) _).setCell (p := ⟨V.heap.size + 1 + 1, 0, none⟩) (.inl ⟨by show V.heap.size ≤ V.heap.size + 1 + 1;omega, by show V.heap.size + 1 + 1 < V.heap.size + 3;omega⟩) _, by show OrI V n (orS (wtA sl mg xs ys) (vals (pre ++ [⟨k, hkn⟩]))) _; rw [vals_snoc, orS_snoc, ← HWK.out, ← HWS.out, ← HQ.out]; exact hId.set hkn _ _⟩
        · go_simp
          refine hK _ _ ?_
          clear hK K
          refine wpAnyIn_ready (rs := [0, 1, 3]) (by kernel_rfl) (by simp) ?_
          refine AllReadyIn.cons rfl (fun K hK => ?_) (AllReadyIn.cons rfl (fun K hK => ?_) (AllReadyIn.cons rfl (fun K hK => ?_) AllReadyIn.nil))
          · go_simp
            refine hK _ _ ?_
            clear hK K
            refine wpAnyIn_ready (rs := [1, 3]) (by kernel_rfl) (by simp) ?_
            refine AllReadyIn.cons rfl (fun K hK => ?_) (AllReadyIn.cons rfl (fun K hK => ?_) AllReadyIn.nil)
            · go_simp
              refine hK _ _ ?_
              clear hK K
              refine wpAnyIn_ready (rs := [3]) (by kernel_rfl) (by simp) ?_
              refine AllReadyIn.cons rfl (fun K hK => ?_) AllReadyIn.nil
              go_simp
              refine hK _ _ ?_
              clear hK K
              refine wpAnyIn_ready (rs := [4]) (by kernel_rfl) (by simp) ?_
              refine AllReadyIn.cons rfl (fun K hK => ?_) AllReadyIn.nil
              go_simp
              refine ⟨trivial, ?_⟩
              refine (CallsIn.inRound l (callsIn_wide.2 (ob_t ws false _ q HQ.out))).mono ?_
              rintro e1 W1 ⟨rfl, rfl⟩
              refine hK _ _ ?_
              clear hK K
              refine wpAnyIn_ready (rs := [5]) (by kernel_rfl) (by simp) ?_
              refine AllReadyIn.cons rfl (fun K hK => ?_) AllReadyIn.nil
              go_simp
              refine hK _ _ ?_
              clear hK K
              refine wpAnyIn_ready (rs := [6]) (by kernel_rfl) (by simp) ?_
              refine AllReadyIn.cons rfl (fun K hK => ?_) AllReadyIn.nil
              go_simp
              refine hK _ _ ?_
              clear hK K
              refine wpAnyIn_done (by kernel_rfl) ?_ _
              gi_wp2
              exact ⟨(((keepsOthers_below bD).trans (KeepsOthers.setCell _ _ _)).trans (KeepsOthers.setCell _ _ _)).from _, ((Mid.of_below (bD.mono hle)).setCell (p := ⟨V.heap.size, k, none⟩) (.inl ⟨Nat.le_refl _, by show V.heap.size < V.heap.size + 3;omega⟩) _).setCell (p := ⟨V.heap.size + 1 + 1, 0, none⟩) (.inl ⟨by show V.heap.size ≤ V.heap.size + 1 + 1;omega, by show V.heap.size + 1 + 1 < V.heap.size + 3;omega⟩) _, by show OrI V n (orS (wtA sl mg xs ys) (vals (pre ++ [⟨k, hkn⟩]))) _; rw [vals_snoc, orS_snoc, ← HWK.out, ← HWS.out, ← HQ.out]; exact hId.set hkn _ _⟩
            · go_simp
              refine hK _ _ ?_
              clear hK K
              refine wpAnyIn_ready (rs := [1, 4]) (by kernel_rfl) (by simp) ?_
              refine AllReadyIn.cons rfl (fun K hK => ?_) (AllReadyIn.cons rfl (fun K hK => ?_) AllReadyIn.nil)
              · go_simp
                refine hK _ _ ?_
                clear hK K
                refine wpAnyIn_ready (rs := [4]) (by kernel_rfl) (by simp) ?_
                refine AllReadyIn.cons rfl (fun K hK => ?_) AllReadyIn.nil
                go_simp
                refine ⟨trivial, ?_⟩
                refine (CallsIn.inRound l (callsIn_wide.2 (ob_t ws false _ q HQ.out))).mono ?_
                rintro e1 W1 ⟨rfl, rfl⟩
                refine hK _ _ ?_
                clear hK K
                refine wpAnyIn_ready (rs := [5]) (by kernel_rfl) (by simp) ?_
                refine AllReadyIn.cons rfl (fun K hK => ?_) AllReadyIn.nil
                go_simp
                refine hK _ _ ?_
                clear hK K
                refine wpAnyIn_ready (rs := [6]) (by kernel_rfl) (by simp) ?_
                refine AllReadyIn.cons rfl (fun K hK => ?_) AllReadyIn.nil
                go_simp
                refine hK _ _ ?_
                clear hK K
                refine wpAnyIn_done (by kernel_rfl) ?_ _
                gi_wp2
                exact ⟨(((keepsOthers_below bD).trans (KeepsOthers.setCell _ _ _)).trans (KeepsOthers.setCell _ _ _)).from _, ((Mid.of_below (bD.mono hle)).setCell (p := ⟨V.heap.size, k, none⟩) (.inl ⟨Nat.le_refl _, by show V.heap.size < V.heap.size + 3;omega⟩) _).setCell (p := ⟨V.heap.size + 1 + 1, 0, none⟩) (.inl ⟨by show V.heap.size ≤ V.heap.size + 1 + 1;omega, by show V.heap.size + 1 + 1 < V.heap.size + 3;omega⟩) _, by show OrI V n (orS (wtA sl mg xs ys) (vals (pre ++ [⟨k, hkn⟩]))) _; rw [vals_snoc, orS_snoc, ← HWK.out, ← HWS.out, ← HQ.out]; exact hId.set hkn _ _⟩
              · go_simp
                refine ⟨trivial, ?_⟩
                refine (CallsIn.inRound l (callsIn_wide.2 (ob_t ws false _ q HQ.out))).mono ?_
                rintro e1 W1 ⟨rfl, rfl⟩
                refine hK _ _ ?_
                clear hK K
                refine wpAnyIn_ready (rs := [1]) (by kernel_rfl) (by simp) ?_
                refine AllReadyIn.cons rfl (fun K hK => ?_) AllReadyIn.nil
                go_simp
                refine hK _ _ ?_
                clear hK K
                refine wpAnyIn_ready (rs := [5]) (by kernel_rfl) (by simp) ?_
                refine AllReadyIn.cons rfl (fun K hK => ?_) AllReadyIn.nil
                go_simp
                refine hK _ _ ?_
                clear hK K
                refine wpAnyIn_ready (rs := [6]) (by kernel_rfl) (by simp) ?_
                refine AllReadyIn.cons rfl (fun K hK => ?_) AllReadyIn.nil
                go_simp
                refine hK _ _ ?_
                clear hK K
                refine wpAnyIn_done (by kernel_rfl) ?_ _
                gi_wp2
                exact ⟨(((keepsOthers_below bD).trans (KeepsOthers.setCell _ _ _)).trans (KeepsOthers.setCell _ _ _)).from _, ((Mid.of_below (bD.mono hle)).setCell (p := ⟨V.heap.size, k, none⟩) (.inl ⟨Nat.le_refl _, by show V.heap.size < V.heap.size + 3;omega⟩) _).setCell (p := ⟨V.heap.size + 1 + 1, 0, none⟩) (.inl ⟨by show V.heap.size ≤ V.heap.size + 1 + 1;omega, by show V.heap.size + 1 + 1 < V.heap.size + 3;omega⟩) _, by show OrI V n (orS (wtA sl mg xs ys) (vals (pre ++ [⟨k, hkn⟩]))) _; rw [vals_snoc, orS_snoc, ← HWK.out, ← HWS.out, ← HQ.out]; exact hId.set hkn _ _⟩
          · go_simp
            refine hK _ _ ?_
            clear hK K
            refine wpAnyIn_ready (rs := [0, 3]) (by kernel_rfl) (by simp) ?_
            refine AllReadyIn.cons rfl (fun K hK => ?_) (AllReadyIn.cons rfl (fun K hK => ?_) AllReadyIn.nil)
            · go_simp
              refine hK _ _ ?_
              clear hK K
              refine wpAnyIn_ready (rs := [3]) (by kernel_rfl) (by simp) ?_
              refine AllReadyIn.cons rfl (fun K hK => ?_) AllReadyIn.nil
              go_simp
              refine hK _ _ ?_
              clear hK K
              refine wpAnyIn_ready (rs := [4]) (by kernel_rfl) (by simp) ?_
              refine AllReadyIn.cons rfl (fun K hK => ?_) AllReadyIn.nil
              go_simp
              refine ⟨trivial, ?_⟩
              refine (CallsIn.inRound l (callsIn_wide.2 (ob_t ws false _ q HQ.out))).mono ?_
              rintro e1 W1 ⟨rfl, rfl⟩
              refine hK _ _ ?_
              clear hK K
              refine wpAnyIn_ready (rs := [5]) (by kernel_rfl) (by simp) ?_
              refine AllReadyIn.cons rfl (fun K hK => ?_) AllReadyIn.nil
              go_simp
              refine hK _ _ ?_
              clear hK K
              refine wpAnyIn_ready (rs := [6]) (by kernel_rfl) (by simp) ?_
              refine AllReadyIn.cons rfl (fun K hK => ?_) AllReadyIn.nil
              go_simp
              refine hK _ _ ?_
              clear hK K
              refine wpAnyIn_done (by kernel_rfl) ?_ _
              gi_wp2
              exact ⟨(((keepsOthers_below bD).trans (KeepsOthers.setCell _ _ _)).trans (KeepsOthers.setCell _ _ _)).from _, ((Mid.of_below (bD.mono hle)).setCell (p := ⟨V.heap.size, k, none⟩) (.inl ⟨Nat.le_refl _, by show V.heap.size < V.heap.size + 3;omega⟩) _).setCell (p := ⟨V.heap.size + 1 + 1, 0, none⟩) (.inl ⟨by show V.heap.size ≤ V.heap.size + 1 + 1;omega, by show V.heap.size + 1 + 1 < V.heap.size + 3;omega⟩) _, by show OrI V n (orS (wtA sl mg xs ys) (vals (pre ++ [⟨k, hkn⟩]))) _; rw [vals_snoc, orS_snoc, ← HWK.out, ← HWS.out, ← HQ.out]; exact hId.set hkn _ _⟩
            · go_simp
              refine hK _ _ ?_
              clear hK K
              refine wpAnyIn_ready (rs := [0, 4]) (by kernel_rfl) (by simp) ?_
              refine AllReadyIn.cons rfl (fun K hK => ?_) (AllReadyIn.cons rfl (fun K hK => ?_) AllReadyIn.nil)
              · go_simp
                refine hK _ _ ?_
                clear hK K
                refine wpAnyIn_ready (rs := [4]) (by kernel_rfl) (by simp) ?_
                refine AllReadyIn.cons rfl (fun K hK => ?_) AllReadyIn.nil
                go_simp
                refine ⟨trivial, ?_⟩
                refine (CallsIn.inRound l (callsIn_wide.2 (ob_t ws false _ q HQ.out))).mono ?_
                rintro e1 W1 ⟨rfl, rfl⟩
                refine hK _ _ ?_
                clear hK K
                refine wpAnyIn_ready (rs := [5]) (by kernel_rfl) (by simp) ?_
                refine AllReadyIn.cons rfl (fun K hK => ?_) AllReadyIn.nil
                go_simp
                refine hK _ _ ?_
                clear hK K
                refine wpAnyIn_ready (rs := [6]) (by kernel_rfl) (by simp) ?_
                refine AllReadyIn.cons rfl (fun K hK => ?_) AllReadyIn.nil
                go_simp
                refine hK _ _ ?_
                clear hK K
                refine wpAnyIn_done (by kernel_rfl) ?_ _
                gi_wp2
                exact ⟨(((keepsOthers_below bD).trans (KeepsOthers.setCell _ _ _)).trans (KeepsOthers.setCell _ _ _)).from _, ((Mid.of_below (bD.mono hle)).setCell (p := ⟨V.heap.size, k, none⟩) (.inl ⟨Nat.le_refl _, by show V.heap.size < V.heap.size + 3;omega⟩) _).setCell (p := ⟨V.heap.size + 1 + 1, 0, none⟩) (.inl ⟨by show V.heap.size ≤ V.heap.size + 1 + 1;omega, by show V.heap.size + 1 + 1 < V.heap.size + 3;omega⟩) _, by show OrI V n (orS (wtA sl mg xs ys) (vals (pre ++ [⟨k, hkn⟩]))) _; rw [vals_snoc, orS_snoc, ← HWK.out, ← HWS.out, ← HQ.out]; exact hId.set hkn _ _⟩
              · go_simp
                refine ⟨trivial, ?_⟩
                refine (CallsIn.inRound l (callsIn_wide.2 (ob_t ws false _ q HQ.out))).mono ?_
                rintro e1 W1 ⟨rfl, rfl⟩
                refine hK _ _ ?_
                clear hK K
                refine wpAnyIn_ready (rs := [0]) (by kernel_rfl) (by simp) ?_
                refine AllReadyIn.cons rfl (fun K hK => ?_) AllReadyIn.nil
                go_simp
                refine hK _ _ ?_
                clear hK K
                refine wpAnyIn_ready (rs := [5]) (by kernel_rfl) (by simp) ?_
                refine AllReadyIn.cons rfl (fun K hK => ?_) AllReadyIn.nil
                go_simp
                refine hK _ _ ?_
                clear hK K
                refine wpAnyIn_ready (rs := [6]) (by kernel_rfl) (by simp) ?_
                refine AllReadyIn.cons rfl (fun K hK => ?_) AllReadyIn.nil
                go_simp
                refine hK _ _ ?_
                clear hK K
                refine wpAnyIn_done (by kernel_rfl) ?_ _
                gi_wp2
                exact ⟨(((keepsOthers_below bD).trans (KeepsOthers.setCell _ _ _)).trans (KeepsOthers.setCell _ _ _)).from _, ((Mid.of_below (bD.mono hle)).setCell (p := ⟨V.heap.size, k, none⟩) (.inl ⟨Nat.le_refl _, by show V.heap.size < V.heap.size + 3;omega⟩) _).setCell (p := ⟨V.heap.size + 1 + 1, 0, none⟩) (.inl ⟨by show V.heap.size ≤ V.heap.size + 1 + 1;omega, by show V.heap.size + 1 + 1 < V.heap.size + 3;omega⟩) _, by show OrI V n (orS (wtA sl mg xs ys) (vals (pre ++ [⟨k, hkn⟩]))) _; rw [vals_snoc, orS_snoc, ← HWK.out, ← HWS.out, ← HQ.out]; exact hId.set hkn _ _⟩
          · go_simp
            refine hK _ _ ?_
            clear hK K
            refine wpAnyIn_ready (rs := [0, 1, 4]) (by kernel_rfl) (by simp) ?_
            refine AllReadyIn.cons rfl (fun K hK => ?_) (AllReadyIn.cons rfl (fun K hK => ?_) (AllReadyIn.cons rfl (fun K hK => ?_) AllReadyIn.nil))
            · go_simp
              refine hK _ _ ?_
              clear hK K
              refine wpAnyIn_ready (rs := [1, 4]) (by kernel_rfl) (by simp) ?_
              refine AllReadyIn.cons rfl (fun K hK => ?_) (AllReadyIn.cons rfl (fun K hK => ?_) AllReadyIn.nil)
              · go_simp
                refine hK _ _ ?_
                clear hK K
                refine wpAnyIn_ready (rs := [4]) (by kernel_rfl) (by simp) ?_
                refine AllReadyIn.cons rfl (fun K hK => ?_) AllReadyIn.nil
                go_simp
                refine ⟨trivial, ?_⟩
                refine (CallsIn.inRound l (callsIn_wide.2 (ob_t ws false _ q HQ.out))).mono ?_
                rintro e1 W1 ⟨rfl, rfl⟩
                refine hK _ _ ?_
                clear hK K
                refine wpAnyIn_ready (rs := [5]) (by kernel_rfl) (by simp) ?_
                refine AllReadyIn.cons rfl (fun K hK => ?_) AllReadyIn.nil
                go_simp
                refine hK _ _ ?_
                clear hK K
                refine wpAnyIn_ready (rs := [6]) (by kernel_rfl) (by simp) ?_
                refine AllReadyIn.cons rfl (fun K hK => ?_) AllReadyIn.nil
                go_simp
                refine hK _ _ ?_
                clear hK K
                refine wpAnyIn_done (by kernel_rfl) ?_ _
                gi_wp2
                exact ⟨(((keepsOthers_below bD).trans (KeepsOthers.setCell _ _ _)).trans (KeepsOthers.setCell _ _ _)).from _, ((Mid.of_below (bD.mono hle)).setCell (p := ⟨V.heap.size, k, none⟩) (.inl ⟨Nat.le_refl _, by show V.heap.size < V.heap.size + 3;omega⟩) _).setCell (p := ⟨V.heap.size + 1 + 1, 0, none⟩) (.inl ⟨by show V.heap.size ≤ V.heap.size + 1 + 1;omega, by show V.heap.size + 1 + 1 < V.heap.size + 3;omega⟩) _, by show OrI V n (orS (wtA sl mg xs ys) (vals (pre ++ [⟨k, hkn⟩]))) _; rw [vals_snoc, orS_snoc, ← HWK.out, ← HWS.out, ← HQ.out]; exact hId.set hkn _ _⟩
              · go_simp
                refine ⟨trivial, ?_⟩
                refine (CallsIn.inRound l (callsIn_wide.2 (ob_t ws false _ q HQ.out))).mono ?_
                rintro e1 W1 ⟨rfl, rfl⟩
                refine hK _ _ ?_
                clear hK K
                refine wpAnyIn_ready (rs := [1]) (by kernel_rfl) (by simp) ?_
                refine AllReadyIn.cons rfl (fun K hK => ?_) AllReadyIn.nil
                go_simp
                refine hK _ _ ?_
                clear hK K
                refine wpAnyIn_ready (rs := [5]) (by kernel_rfl) (by simp) ?_
                refine AllReadyIn.cons rfl (fun K hK => ?_) AllReadyIn.nil
                go_simp
                refine hK _ _ ?_
                clear hK K
                refine wpAnyIn_ready (rs := [6]) (by kernel_rfl) (by simp) ?_
                refine AllReadyIn.cons rfl (fun K hK => ?_) AllReadyIn.nil
                go_simp
                refine hK _ _ ?_
                clear hK K
                refine wpAnyIn_done (by kernel_rfl) ?_ _
                gi_wp2
                exact ⟨(((keepsOthers_below bD).trans (KeepsOthers.setCell _ _ _)).trans (KeepsOthers.setCell _ _ _)).from _, ((Mid.of_below (bD.mono hle)).setCell (p := ⟨V.heap.size, k, none⟩) (.inl ⟨Nat.le_refl _, by show V.heap.size < V.heap.size + 3;omega⟩) _).setCell (p := ⟨V.heap.size + 1 + 1, 0, none⟩) (.inl ⟨by show V.heap.size ≤ V.heap.size + 1 + 1;omega, by show V.heap.size + 1 + 1 < V.heap.size + 3;omega⟩) _, by show OrI V n (orS (wtA sl mg xs ys) (vals (pre ++ [⟨k, hkn⟩]))) _; rw [vals_snoc, orS_snoc, ← HWK.out, ← HWS.out, ← HQ.out]; exact hId.set hkn _ _⟩
            · go_simp
              refine hK _ _ ?_
              clear hK K
              refine wpAnyIn_ready (rs := [0, 4]) (by kernel_rfl) (by simp) ?_
              refine AllReadyIn.cons rfl (fun K hK => ?_) (AllReadyIn.cons rfl (fun K hK => ?_) AllReadyIn.nil)
              · go_simp
                refine hK _ _ ?_
                clear hK K
                refine wpAnyIn_ready (rs := [4]) (by kernel_rfl) (by simp) ?_
                refine AllReadyIn.cons rfl (fun K hK => ?_) AllReadyIn.nil
                go_simp
                refine ⟨trivial, ?_⟩
                refine (CallsIn.inRound l (callsIn_wide.2 (ob_t ws false _ q HQ.out))).mono ?_
                rintro e1 W1 ⟨rfl, rfl⟩
                refine hK _ _ ?_
                clear hK K
                refine wpAnyIn_ready (rs := [5]) (by kernel_rfl) (by simp) ?_
                refine AllReadyIn.cons rfl (fun K hK => ?_) AllReadyIn.nil
                go_simp
                refine hK _ _ ?_
                clear hK K
                refine wpAnyIn_ready (rs := [6]) (by kernel_rfl) (by simp) ?_
                refine AllReadyIn.cons rfl (fun K hK => ?_) AllReadyIn.nil
                go_simp
                refine hK _ _ ?_
                clear hK K
                refine wpAnyIn_done (by kernel_rfl) ?_ _
                gi_wp2
                exact ⟨(((keepsOthers_below bD).trans (KeepsOthers.setCell _ _ _)).trans (KeepsOthers.setCell _ _ _)).from _, ((Mid.of_below (bD.mono hle)).setCell (p := ⟨V.heap.size, k, none⟩) (.inl ⟨Nat.le_refl _, by show V.heap.size < V.heap.size + 3;omega⟩) _).setCell (p := ⟨V.heap.size + 1 + 1, 0, none⟩) (.inl ⟨by show V.heap.size ≤ V.heap.size + 1 + 1;omega, by show V.heap.size + 1 + 1 < V.heap.size + 3;omega⟩) _, by show OrI V n (orS (wtA sl mg xs ys) (vals (pre ++ [⟨k, hkn⟩]))) _; rw [vals_snoc, orS_snoc, ← HWK.out, ← HWS.out, ← HQ.out]; exact hId.set hkn _ _⟩
              · go_simp
                refine ⟨trivial, ?_⟩
                refine (CallsIn.inRound l (callsIn_wide.2 (ob_t ws false _ q HQ.out))).mono ?_
                rintro e1 W1 ⟨rfl, rfl⟩
                refine hK _ _ ?_
                clear hK K
                refine wpAnyIn_ready (rs := [0]) (by kernel_rfl) (by simp) ?_
                refine AllReadyIn.cons rfl (fun K hK => ?_) AllReadyIn.nil
                go_simp
                refine hK _ _ ?_
                clear hK K
                refine wpAnyIn_ready (rs := [5]) (by kernel_rfl) (by simp) ?_
                refine AllReadyIn.cons rfl (fun K hK => ?_) AllReadyIn.nil
                go_simp
                refine hK _ _ ?_
                clear hK K
                refine wpAnyIn_ready (rs := [6]) (by kernel_rfl) (by simp) ?_
                refine AllReadyIn.cons rfl (fun K hK => ?_) AllReadyIn.nil
                go_simp
                refine hK _ _ ?_
                clear hK K
                refine wpAnyIn_done (by kernel_rfl) ?_ _
                gi_wp2
                exact ⟨(((keepsOthers_below bD).trans (KeepsOthers.setCell _ _ _)).trans (KeepsOthers.setCell _ _ _)).from _, ((Mid.of_below (bD.mono hle)).setCell (p := ⟨V.heap.size, k, none⟩) (.inl ⟨Nat.le_refl _, by show V.heap.size < V.heap.size + 3;omega⟩) _).setCell (p := ⟨V.heap.size + 1 + 1, 0, none⟩) (.inl ⟨by show V.heap.size ≤ V.heap.size + 1 + 1;omega, by show V.heap.size + 1 + 1 < V.heap.size + 3;omega⟩) _, by show OrI V n (orS (wtA sl mg xs ys) (vals (pre ++ [⟨k, hkn⟩]))) _; rw [vals_snoc, orS_snoc, ← HWK.out, ← HWS.out, ← HQ.out]; exact hId.set hkn _ _⟩
            · go_simp
              refine ⟨trivial, ?_⟩
              refine (CallsIn.inRound l (callsIn_wide.2 (ob_t ws false _ q HQ.out))).mono ?_
              rintro e1 W1 ⟨rfl, rfl⟩
              refine hK _ _ ?_
              clear hK K
              refine wpAnyIn_ready (rs := [0, 1]) (by kernel_rfl) (by simp) ?_
              refine AllReadyIn.cons rfl (fun K hK => ?_) (AllReadyIn.cons rfl (fun K hK => ?_) AllReadyIn.nil)
              · go_simp
                refine hK _ _ ?_
                clear hK K
                refine wpAnyIn_ready (rs := [1]) (by kernel_rfl) (by simp) ?_
                refine AllReadyIn.cons rfl (fun K hK => ?_) AllReadyIn.nil
                go_simp
                refine hK _ _ ?_
                clear hK K
                refine wpAnyIn_ready (rs := [5]) (by kernel_rfl) (by simp) ?_
                refine AllReadyIn.cons rfl (fun K hK => ?_) AllReadyIn.nil
                go_simp
                refine hK _ _ ?_
                clear hK K
                refine wpAnyIn_ready (rs := [6]) (by kernel_rfl) (by simp) ?_
                refine AllReadyIn.cons rfl (fun K hK => ?_) AllReadyIn.nil
                go_simp
                refine hK _ _ ?_
                clear hK K
                refine wpAnyIn_done (by kernel_rfl) ?_ _
                gi_wp2
                exact ⟨(((keepsOthers_below bD).trans (KeepsOthers.setCell _ _ _)).trans (KeepsOthers.setCell _ _ _)).from _, ((Mid.of_below (bD.mono hle)).setCell (p := ⟨V.heap.size, k, none⟩) (.inl ⟨Nat.le_refl _, by show V.heap.size < V.heap.size + 3;omega⟩) _).setCell (p := ⟨V.heap.size + 1 + 1, 0, none⟩) (.inl ⟨by show V.heap.size ≤ V.heap.size + 1 + 1;omega, by show V.heap.size + 1 + 1 < V.heap.size + 3;omega⟩) _, by show OrI V n (orS (wtA sl mg xs ys) (vals (pre ++ [⟨k, hkn⟩]))) _; rw [vals_snoc, orS_snoc, ← HWK.out, ← HWS.out, ← HQ.out]; exact hId.set hkn _ _⟩
              · go_simp
                refine hK _ _ ?_
                clear hK K
                refine wpAnyIn_ready (rs := [0]) (by kernel_rfl) (by simp) ?_
                refine AllReadyIn.cons rfl (fun K hK => ?_) AllReadyIn.nil
                go_simp
                refine hK _ _ ?_
                clear hK K
                refine wpAnyIn_ready (rs := [5]) (by kernel_rfl) (by simp) ?_
                refine AllReadyIn.cons rfl (fun K hK => ?_) AllReadyIn.nil
                go_simp
                refine hK _ _ ?_
                clear hK K
                refine wpAnyIn_ready (rs := [6]) (by kernel_rfl) (by simp) ?_
                refine AllReadyIn.cons rfl (fun K hK => ?_) AllReadyIn.nil
                go_simp
                refine hK _ _ ?_
                clear hK K
                refine wpAnyIn_done (by kernel_rfl) ?_ _
                gi_wp2
                exact ⟨(((keepsOthers_below bD).trans (KeepsOthers.setCell _ _ _)).trans (KeepsOthers.setCell _ _ _)).from _, ((Mid.of_below (bD.mono hle)).setCell (p := ⟨V.heap.size, k, none⟩) (.inl ⟨Nat.le_refl _, by show V.heap.size < V.heap.size + 3;omega⟩) _).setCell (p := ⟨V.heap.size + 1 + 1, 0, none⟩) (.inl ⟨by show V.heap.size ≤ V.heap.size + 1 + 1;omega, by show V.heap.size + 1 + 1 < V.heap.size + 3;omega⟩) _, by show OrI V n (orS (wtA sl mg xs ys) (vals (pre ++ [⟨k, hkn⟩]))) _; rw [vals_snoc, orS_snoc, ← HWK.out, ← HWS.out, ← HQ.out]; exact hId.set hkn _ _⟩
        · go_simp
          refine hK _ _ ?_
          clear hK K
          refine wpAnyIn_ready (rs := [0, 1, 2]) (by kernel_rfl) (by simp) ?_
          refine AllReadyIn.cons rfl (fun K hK => ?_) (AllReadyIn.cons rfl (fun K hK => ?_) (AllReadyIn.cons rfl (fun K hK => ?_) AllReadyIn.nil))
          · go_simp
            refine hK _ _ ?_
            clear hK K
            refine wpAnyIn_ready (rs := [1, 2]) (by kernel_rfl) (by simp) ?_
            refine AllReadyIn.cons rfl (fun K hK => ?_) (AllReadyIn.cons rfl (fun K hK => ?_) AllReadyIn.nil)
            · go_simp
              refine hK _ _ ?_
              clear hK K
              refine wpAnyIn_ready (rs := [2]) (by kernel_rfl) (by simp) ?_
              refine AllReadyIn.cons rfl (fun K hK => ?_) AllReadyIn.nil
              go_simp
              refine hK _ _ ?_
              clear hK K
              refine wpAnyIn_ready (rs := [4]) (by kernel_rfl) (by simp) ?_
              refine AllReadyIn.cons rfl (fun K hK => ?_) AllReadyIn.nil
              go_simp
              refine ⟨trivial, ?_⟩
              refine (CallsIn.inRound l (callsIn_wide.2 (ob_t ws false _ q HQ.out))).mono ?_
              rintro e1 W1 ⟨rfl, rfl⟩
              refine hK _ _ ?_
              clear hK K
              refine wpAnyIn_ready (rs := [5]) (by kernel_rfl) (by simp) ?_
              refine AllReadyIn.cons rfl (fun K hK => ?_) AllReadyIn.nil
              go_simp
              refine hK _ _ ?_
              clear hK K
              refine wpAnyIn_ready (rs := [6]) (by kernel_rfl) (by simp) ?_
              refine AllReadyIn.cons rfl (fun K hK => ?_) AllReadyIn.nil
              go_simp
              refine hK _ _ ?_
              clear hK K
              refine wpAnyIn_done (by kernel_rfl) ?_ _
              gi_wp2
              exact ⟨(((keepsOthers_below bD).trans (KeepsOthers.setCell _ _ _)).trans (KeepsOthers.setCell _ _ _)).from _, ((Mid.of_below (bD.mono hle)).setCell (p := ⟨V.heap.size, k, none⟩) (.inl ⟨Nat.le_refl _, by show V.heap.size < V.heap.size + 3;omega⟩) _).setCell (p := ⟨V.heap.size + 1 + 1, 0, none⟩) (.inl ⟨by show V.heap.size ≤ V.heap.size + 1 + 1;omega, by show V.heap.size + 1 + 1 < V.heap.size + 3;omega⟩) _, by show OrI V n (orS (wtA sl mg xs ys) (vals (pre ++ [⟨k, hkn⟩]))) _; rw [vals_snoc, orS_snoc, ← HWK.out, ← HWS.out, ← HQ.out]; exact hId.set hkn _ _⟩
            · go_simp
              refine hK _ _ ?_
              clear hK K
              refine wpAnyIn_ready (rs := [1, 4]) (by kernel_rfl) (by simp) ?_
              refine AllReadyIn.cons rfl (fun K hK => ?_) (AllReadyIn.cons rfl (fun K hK => ?_) AllReadyIn.nil)
              · go_simp
                refine hK _ _ ?_
                clear hK K
                refine wpAnyIn_ready (rs := [4]) (by kernel_rfl) (by simp) ?_
                refine AllReadyIn.cons rfl (fun K hK => ?_) AllReadyIn.nil
                go_simp
                refine ⟨trivial, ?_⟩
                refine (CallsIn.inRound l (callsIn_wide.2 (ob_t ws false _ q HQ.out))).mono ?_
                rintro e1 W1 ⟨rfl, rfl⟩
                refine hK _ _ ?_
                clear hK K
                refine wpAnyIn_ready (rs := [5]) (by kernel_rfl) (by simp) ?_
                refine AllReadyIn.cons rfl (fun K hK => ?_) AllReadyIn.nil
                go_simp
                refine hK _ _ ?_
                clear hK K
                refine wpAnyIn_ready (rs := [6]) (by kernel_rfl) (by simp) ?_
                refine AllReadyIn.cons rfl (fun K hK => ?_) AllReadyIn.nil
                go_simp
                refine hK _ _ ?_
                clear hK K
                refine wpAnyIn_done (by kernel_rfl) ?_ _
                gi_wp2
                exact ⟨(((keepsOthers_below bD).trans (KeepsOthers.setCell _ _ _)).trans (KeepsOthers.setCell _ _ _)).from _, ((Mid.of_below (bD.mono hle)).setCell (p := ⟨V.heap.size, k, none⟩) (.inl ⟨Nat.le_refl _, by show V.heap.size < V.heap.size + 3;omega⟩) _).setCell (p := ⟨V.heap.size + 1 + 1, 0, none⟩) (.inl ⟨by show V.heap.size ≤ V.heap.size + 1 + 1;omega, by show V.heap.size + 1 + 1 < V.heap.size + 3;omega⟩) _, by show OrI V n (orS (wtA sl mg xs ys) (vals (pre ++ [⟨k, hkn⟩]))) _; rw [vals_snoc, orS_snoc, ← HWK.out, ← HWS.out, ← HQ.out]; exact hId.set hkn _ _⟩
              · go_simp
                refine ⟨trivial, ?_⟩
                refine (CallsIn.inRound l (callsIn_wide.2 (ob_t ws false _ q HQ.out))).mono ?_
                rintro e1 W1 ⟨rfl, rfl⟩
                refine hK _ _ ?_
                clear hK K
                refine wpAnyIn_ready (rs := [1]) (by kernel_rfl) (by simp) ?_
                refine AllReadyIn.cons rfl (fun K hK => ?_) AllReadyIn.nil
                go_simp
                refine hK _ _ ?_
                clear hK K
                refine wpAnyIn_ready (rs := [5]) (by kernel_rfl) (by simp) ?_
                refine AllReadyIn.cons rfl (fun K hK => ?_) AllReadyIn.nil
                go_simp
                refine hK _ _ ?_
                clear hK K
                refine wpAnyIn_ready (rs := [6]) (by kernel_rfl) (by simp) ?_
                refine AllReadyIn.cons rfl (fun K hK => ?_) AllReadyIn.nil
                go_simp
                refine hK _ _ ?_
                clear hK K
                refine wpAnyIn_done (by kernel_rfl) ?_ _
                gi_wp2
                exact ⟨(((keepsOthers_below bD).trans (KeepsOthers.setCell _ _ _)).trans (KeepsOthers.setCell _ _ _)).from _, ((Mid.of_below (bD.mono hle)).setCell (p := ⟨V.heap.size, k, none⟩) (.inl ⟨Nat.le_refl _, by show V.heap.size < V.heap.size + 3;omega⟩) _).setCell (p := ⟨V.heap.size + 1 + 1, 0, none⟩) (.inl ⟨by show V.heap.size ≤ V.heap.size + 1 + 1;omega, by show V.heap.size + 1 + 1 < V.heap.size + 3;omega⟩) _, by show OrI V n (orS (wtA sl mg xs ys) (vals (pre ++ [⟨k, hkn⟩]))) _; rw [vals_snoc, orS_snoc, ← HWK.out, ← HWS.out, ← HQ.out]; exact hId.set hkn _ _⟩
          · go_simp
            refine hK _ _ ?_
            clear hK K
            refine wpAnyIn_ready (rs := [0, 2]) (by kernel_rfl) (by simp) ?_
            refine AllReadyIn.cons rfl (fun K hK => ?_) (AllReadyIn.cons rfl (fun K hK => ?_) AllReadyIn.nil)
            · go_simp
              refine hK _ _ ?_
              clear hK K
              refine wpAnyIn_ready (rs := [2]) (by kernel_rfl) (by simp) ?_
              refine AllReadyIn.cons rfl (fun K hK => ?_) AllReadyIn.nil
              go_simp
              refine hK _ _ ?_
              clear hK K
              refine wpAnyIn_ready (rs := [4]) (by kernel_rfl) (by simp) ?_
              refine AllReadyIn.cons rfl (fun K hK => ?_) AllReadyIn.nil
              go_simp
              refine ⟨trivial, ?_⟩
              refine (CallsIn.inRound l (callsIn_wide.2 (ob_t ws false _ q HQ.out))).mono ?_
              rintro e1 W1 ⟨rfl, rfl⟩
              refine hK _ _ ?_
              clear hK K
              refine wpAnyIn_ready (rs := [5]) (by kernel_rfl) (by simp) ?_
              refine AllReadyIn.cons rfl (fun K hK => ?_) AllReadyIn.nil
              go_simp
              refine hK _ _ ?_
              clear hK K
              refine wpAnyIn_ready (rs := [6]) (by kernel_rfl) (by simp) ?_
              refine AllReadyIn.cons rfl (fun K hK => ?_) AllReadyIn.nil
              go_simp
              refine hK _ _ ?_
              clear hK K
              refine wpAnyIn_done (by kernel_rfl) ?_ _
              gi_wp2
              exact ⟨(((keepsOthers_below bD).trans (KeepsOthers.setCell _ _ _)).trans (KeepsOthers.setCell _ _ _)).from _, ((Mid.of_below (bD.mono hle)).setCell (p := ⟨V.heap.size, k, none⟩) (.inl ⟨Nat.le_refl _, by show V.heap.size < V.heap.size + 3;omega⟩) _).setCell (p := ⟨V.heap.size + 1 + 1, 0, none⟩) (.inl ⟨by show V.heap.size ≤ V.heap.size + 1 + 1;omega, by show V.heap.size + 1 + 1 < V.heap.size + 3;omega⟩) _, by show OrI V n (orS (wtA sl mg xs ys) (vals (pre ++ [⟨k, hkn⟩]))) _; rw [vals_snoc, orS_snoc, ← HWK.out, ← HWS.out, ← HQ.out]; exact hId.set hkn _ _⟩
            · go_simp
              refine hK _ _ ?_
              clear hK K
              refine wpAnyIn_ready (rs := [0, 4]) (by kernel_rfl) (by simp) ?_
              refine AllReadyIn.cons rfl (fun K hK => ?_) (AllReadyIn.cons rfl (fun K hK => ?_) AllReadyIn.nil)
              · go_simp
                refine hK _ _ ?_
                clear hK K
                refine wpAnyIn_ready (rs := [4]) (by kernel_rfl) (by simp) ?_
                refine AllReadyIn.cons rfl (fun K hK => ?_) AllReadyIn.nil
                go_simp
                refine ⟨trivial, ?_⟩
                refine (CallsIn.inRound l (callsIn_wide.2 (ob_t ws false _ q HQ.out))).mono ?_
                rintro e1 W1 ⟨rfl, rfl⟩
                refine hK _ _ ?_
                clear hK K
                refine wpAnyIn_ready (rs := [5]) (by kernel_rfl) (by simp) ?_
                refine AllReadyIn.cons rfl (fun K hK => ?_) AllReadyIn.nil
                go_simp
                refine hK _ _ ?_
                clear hK K
                refine wpAnyIn_ready (rs := [6]) (by kernel_rfl) (by simp) ?_
                refine AllReadyIn.cons rfl (fun K hK => ?_) AllReadyIn.nil
                go_simp
                refine hK _ _ ?_
                clear hK K
                refine wpAnyIn_done (by kernel_rfl) ?_ _
                gi_wp2
                exact ⟨(((keepsOthers_below bD).trans (KeepsOthers.setCell _ _ _)).trans (KeepsOthers.setCell _ _ _)).from _, ((Mid.of_below (bD.mono hle)).setCell (p := ⟨V.heap.size, k, none⟩) (.inl ⟨Nat.le_refl _, by show V.heap.size < V.heap.size + 3;omega⟩) _).setCell (p := ⟨V.heap.size + 1 + 1, 0, none⟩) (.inl ⟨by show V.heap.size ≤ V.heap.size + 1 + 1;omega, by show V.heap.size + 1 + 1 < V.heap.size + 3;omega⟩) _, by show OrI V n (orS (wtA sl mg xs ys) (vals (pre ++ [⟨k, hkn⟩]))) _; rw [vals_snoc, orS_snoc, ← HWK.out, ← HWS.out, ← HQ.out]; exact hId.set hkn _ _⟩
              · go_simp
                refine ⟨trivial, ?_⟩
                refine (CallsIn.inRound l (callsIn_wide.2 (ob_t ws false _ q HQ.out))).mono ?_
                rintro e1 W1 ⟨rfl, rfl⟩
                refine hK _ _ ?_
                clear hK K
                refine wpAnyIn_ready (rs := [0]) (by kernel_rfl) (by simp) ?_
                refine AllReadyIn.cons rfl (fun K hK => ?_) AllReadyIn.nil
                go_simp
                refine hK _ _ ?_
                clear hK K
                refine wpAnyIn_ready (rs := [5]) (by kernel_rfl) (by simp) ?_
                refine AllReadyIn.cons rfl (fun K hK => ?_) AllReadyIn.nil
                go_simp
                refine hK _ _ ?_
                clear hK K
                refine wpAnyIn_ready (rs := [6]) (by kernel_rfl) (by simp) ?_
                refine AllReadyIn.cons rfl (fun K hK => ?_) AllReadyIn.nil
                go_simp
                refine hK _ _ ?_
                clear hK K
                refine wpAnyIn_done (by kernel_rfl) ?_ _
                gi_wp2
                exact ⟨(((keepsOthers_below bD).trans (KeepsOthers.setCell _ _ _)).trans (KeepsOthers.setCell _ _ _)).from _, ((Mid.of_below (bD.mono hle)).setCell (p := ⟨V.heap.size, k, none⟩) (.inl ⟨Nat.le_refl _, by show V.heap.size < V.heap.size + 3;omega⟩) _).setCell (p := ⟨V.heap.size + 1 + 1, 0, none⟩) (.inl ⟨by show V.heap.size ≤ V.heap.size + 1 + 1;omega, by show V.heap.size + 1 + 1 < V.heap.size + 3;omega⟩) _, by show OrI V n (orS (wtA sl mg xs ys) (vals (pre ++ [⟨k, hkn⟩]))) _; rw [vals_snoc, orS_snoc, ← HWK.out, ← HWS.out, ← HQ.out]; exact hId.set hkn _ _⟩
          · go_simp
            refine hK _ _ ?_
            clear hK K
            refine wpAnyIn_ready (rs := [0, 1, 4]) (by kernel_rfl) (by simp) ?_
            refine AllReadyIn.cons rfl (fun K hK => ?_) (AllReadyIn.cons rfl (fun K hK => ?_) (AllReadyIn.cons rfl (fun K hK => ?_) AllReadyIn.nil))
            · go_simp
              refine hK _ _ ?_
              clear hK K
              refine wpAnyIn_ready (rs := [1, 4]) (by kernel_rfl) (by simp) ?_
              refine AllReadyIn.cons rfl (fun K hK => ?_) (AllReadyIn.cons rfl (fun K hK => ?_) AllReadyIn.nil)
              · go_simp
                refine hK _ _ ?_
                clear hK K
                refine wpAnyIn_ready (rs := [4]) (by kernel_rfl) (by simp) ?_
                refine AllReadyIn.cons rfl (fun K hK => ?_) AllReadyIn.nil
                go_simp
                refine ⟨trivial, ?_⟩
                refine (CallsIn.inRound l (callsIn_wide.2 (ob_t ws false _ q HQ.out))).mono ?_
                rintro e1 W1 ⟨rfl, rfl⟩
                refine hK _ _ ?_
                clear hK K
                refine wpAnyIn_ready (rs := [5]) (by kernel_rfl) (by simp) ?_
                refine AllReadyIn.cons rfl (fun K hK => ?_) AllReadyIn.nil
                go_simp
                refine hK _ _ ?_
                clear hK K
                refine wpAnyIn_ready (rs := [6]) (by kernel_rfl) (by simp) ?_
                refine AllReadyIn.cons rfl (fun K hK => ?_) AllReadyIn.nil
                go_simp
                refine hK _ _ ?_
                clear hK K
                refine wpAnyIn_done (by kernel_rfl) ?_ _
                gi_wp2
                exact ⟨(((keepsOthers_below bD).trans (KeepsOthers.setCell _ _ _)).trans (KeepsOthers.setCell _ _ _)).from _, ((Mid.of_below (bD.mono hle)).setCell (p := ⟨V.heap.size, k, none⟩) (.inl ⟨Nat.le_refl _, by show V.heap.size < V.heap.size + 3;omega⟩) _).setCell (p := ⟨V.heap.size + 1 + 1, 0, none⟩) (.inl ⟨by show V.heap.size ≤ V.heap.size + 1 + 1;omega, by show V.heap.size + 1 + 1 < V.heap.size + 3;omega⟩) _, by show OrI V n (orS (wtA sl mg xs ys) (vals (pre ++ [⟨k, hkn⟩]))) _; rw [vals_snoc, orS_snoc, ← HWK.out, ← HWS.out, ← HQ.out]; exact hId.set hkn _ _⟩
              · go_simp
                refine ⟨trivial, ?_⟩
                refine (CallsIn.inRound l (callsIn_wide.2 (ob_t ws false _ q HQ.out))).mono ?_
                rintro e1 W1 ⟨rfl, rfl⟩
                refine hK _ _ ?_
                clear hK K
                refine wpAnyIn_ready (rs := [1]) (by kernel_rfl) (by simp) ?_
                refine AllReadyIn.cons rfl (fun K hK => ?_) AllReadyIn.nil
                go_simp
                refine hK _ _ ?_
                clear hK K
                refine wpAnyIn_ready (rs := [5]) (by kernel_rfl) (by simp) ?_
                refine AllReadyIn.cons rfl (fun K hK => ?_) AllReadyIn.nil
                go_simp
                refine hK _ _ ?_
                clear hK K
                refine wpAnyIn_ready (rs := [6]) (by kernel_rfl) (by simp) ?_
                refine AllReadyIn.cons rfl (fun K hK => ?_) AllReadyIn.nil
                go_simp
                refine hK _ _ ?_
                clear hK K
                refine wpAnyIn_done (by kernel_rfl) ?_ _
                gi_wp2
                exact ⟨(((keepsOthers_below bD).trans (KeepsOthers.setCell _ _ _)).trans (KeepsOthers.setCell _ _ _)).from _, ((Mid.of_below (bD.mono hle)).setCell (p := ⟨V.heap.size, k, none⟩) (.inl ⟨Nat.le_refl _, by show V.heap.size < V.heap.size + 3;omega⟩) _).setCell (p := ⟨V.heap.size + 1 + 1, 0, none⟩) (.inl ⟨by show V.heap.size ≤ V.heap.size + 1 + 1;omega, by show V.heap.size + 1 + 1 < V.heap.size + 3;omega⟩) _, by show OrI V n (orS (wtA sl mg xs ys) (vals (pre ++ [⟨k, hkn⟩]))) _; rw [vals_snoc, orS_snoc, ← HWK.out, ← HWS.out, ← HQ.out]; exact hId.set hkn _ _⟩
            · go_simp
              refine hK _ _ ?_
              clear hK K
              refine wpAnyIn_ready (rs := [0, 4]) (by kernel_rfl) (by simp) ?_
              refine AllReadyIn.cons rfl (fun K hK => ?_) (AllReadyIn.cons rfl (fun K hK => ?_) AllReadyIn.nil)
              · go_simp
                refine hK _ _ ?_
                clear hK K
                refine wpAnyIn_ready (rs := [4]) (by kernel_rfl) (by simp) ?_
                refine AllReadyIn.cons rfl (fun K hK => ?_) AllReadyIn.nil
                go_simp
                refine ⟨trivial, ?_⟩
                refine (CallsIn.inRound l (callsIn_wide.2 (ob_t ws false _ q HQ.out))).mono ?_
                rintro e1 W1 ⟨rfl, rfl⟩
                refine hK _ _ ?_
                clear hK K
                refine wpAnyIn_ready (rs := [5]) (by kernel_rfl) (by simp) ?_
                refine AllReadyIn.cons rfl (fun K hK => ?_) AllReadyIn.nil
                go_simp
                refine hK _ _ ?_
                clear hK K
                refine wpAnyIn_ready (rs := [6]) (by kernel_rfl) (by simp) ?_
                refine AllReadyIn.cons rfl (fun K hK => ?_) AllReadyIn.nil
                go_simp
                refine hK _ _ ?_
                clear hK K
                refine wpAnyIn_done (by kernel_rfl) ?_ _
                gi_wp2
                exact ⟨(((keepsOthers_below bD).trans (KeepsOthers.setCell _ _ _)).trans (KeepsOthers.setCell _ _ _)).from _, ((Mid.of_below (bD.mono hle)).setCell (p := ⟨V.heap.size, k, none⟩) (.inl ⟨Nat.le_refl _, by show V.heap.size < V.heap.size + 3;omega⟩) _).setCell (p := ⟨V.heap.size + 1 + 1, 0, none⟩) (.inl ⟨by show V.heap.size ≤ V.heap.size + 1 + 1;omega, by show V.heap.size + 1 + 1 < V.heap.size + 3;omega⟩) _, by show OrI V n (orS (wtA sl mg xs ys) (vals (pre ++ [⟨k, hkn⟩]))) _; rw [vals_snoc, orS_snoc, ← HWK.out, ← HWS.out, ← HQ.out]; exact hId.set hkn _ _⟩
              · go_simp
                refine ⟨trivial, ?_⟩
                refine (CallsIn.inRound l (callsIn_wide.2 (ob_t ws false _ q HQ.out))).mono ?_
                rintro e1 W1 ⟨rfl, rfl⟩
                refine hK _ _ ?_
                clear hK K
                refine wpAnyIn_ready (rs := [0]) (by kernel_rfl) (by simp) ?_
                refine AllReadyIn.cons rfl (fun K hK => ?_) AllReadyIn.nil
                go_simp
                refine hK _ _ ?_
                clear hK K
                refine wpAnyIn_ready (rs := [5]) (by kernel_rfl) (by simp) ?_
                refine AllReadyIn.cons rfl (fun K hK => ?_) AllReadyIn.nil
                go_simp
                refine hK _ _ ?_
                clear hK K
                refine wpAnyIn_ready (rs := [6]) (by kernel_rfl) (by simp) ?_
                refine AllReadyIn.cons rfl (fun K hK => ?_) AllReadyIn.nil
                go_simp
                refine hK _ _ ?_
                clear hK K
                refine wpAnyIn_done (by kernel_rfl) ?_ _
                gi_wp2
                exact ⟨(((keepsOthers_below bD).trans (KeepsOthers.setCell _ _ _)).trans (KeepsOthers.setCell _ _ _)).from _, ((Mid.of_below (bD.mono hle)).setCell (p := ⟨V.heap.size, k, none⟩) (.inl ⟨Nat.le_refl _, by show V.heap.size < V.heap.size + 3;omega⟩) _).setCell (p := ⟨V.heap.size + 1 + 1, 0, none⟩) (.inl ⟨by show V.heap.size ≤ V.heap.size + 1 + 1;omega, by show V.heap.size + 1 + 1 < V.heap.size + 3;omega⟩) _, by show OrI V n (orS (wtA sl mg xs ys) (vals (pre ++ [⟨k, hkn⟩]))) _; rw [vals_snoc, orS_snoc, ← HWK.out, ← HWS.out, ← HQ.out]; exact hId.set hkn _ _⟩
            · go_simp
              refine ⟨trivial, ?_⟩
              refine (CallsIn.inRound l (callsIn_wide.2 (ob_t ws false _ q HQ.out))).mono ?_
              rintro e1 W1 ⟨rfl, rfl⟩
              refine hK _ _ ?_
              clear hK K
              refine wpAnyIn_ready (rs := [0, 1]) (by kernel_rfl) (by simp) ?_
              refine AllReadyIn.cons rfl (fun K hK => ?_) (AllReadyIn.cons rfl (fun K hK => ?_) AllReadyIn.nil)
              · go_simp
                refine hK _ _ ?_
                clear hK K
                refine wpAnyIn_ready (rs := [1]) (by kernel_rfl) (by simp) ?_
                refine AllReadyIn.cons rfl (fun K hK => ?_) AllReadyIn.nil
                go_simp
                refine hK _ _ ?_
                clear hK K
                refine wpAnyIn_ready (rs := [5]) (by kernel_rfl) (by simp) ?_
                refine AllReadyIn.cons rfl (fun K hK => ?_) AllReadyIn.nil
                go_simp
                refine hK _ _ ?_
                clear hK K
                refine wpAnyIn_ready (rs := [6]) (by kernel_rfl) (by simp) ?_
                refine AllReadyIn.cons rfl (fun K hK => ?_) AllReadyIn.nil
                go_simp
                refine hK _ _ ?_
                clear hK K
                refine wpAnyIn_done (by kernel_rfl) ?_ _
                gi_wp2
                exact ⟨(((keepsOthers_below bD).trans (KeepsOthers.setCell _ _ _)).trans (KeepsOthers.setCell _ _ _)).from _, ((Mid.of_below (bD.mono hle)).setCell (p := ⟨V.heap.size, k, none⟩) (.inl ⟨Nat.le_refl _, by show V.heap.size < V.heap.size + 3;omega⟩) _).setCell (p := ⟨V.heap.size + 1 + 1, 0, none⟩) (.inl ⟨by show V.heap.size ≤ V.heap.size + 1 + 1;omega, by show V.heap.size + 1 + 1 < V.heap.size + 3;omega⟩) _, by show OrI V n (orS (wtA sl mg xs ys) (vals (pre ++ [⟨k, hkn⟩]))) _; rw [vals_snoc, orS_snoc, ← HWK.out, ← HWS.out, ← HQ.out]; exact hId.set hkn _ _⟩
              · go_simp
                refine hK _ _ ?_
                clear hK K
                refine wpAnyIn_ready (rs := [0]) (by kernel_rfl) (by simp) ?_
                refine AllReadyIn.cons rfl (fun K hK => ?_) AllReadyIn.nil
                go_simp
                refine hK _ _ ?_
                clear hK K
                refine wpAnyIn_ready (rs := [5]) (by kernel_rfl) (by simp) ?_
                refine AllReadyIn.cons rfl (fun K hK => ?_) AllReadyIn.nil
                go_simp
                refine hK _ _ ?_
                clear hK K
                refine wpAnyIn_ready (rs := [6]) (by kernel_rfl) (by simp) ?_
                refine AllReadyIn.cons rfl (fun K hK => ?_) AllReadyIn.nil
                go_simp
                refine hK _ _ ?_
                clear hK K
                refine wpAnyIn_done (by kernel_rfl) ?_ _
                gi_wp2
                exact ⟨(((keepsOthers_below bD).trans (KeepsOthers.setCell _ _ _)).trans (KeepsOthers.setCell _ _ _)).from _, ((Mid.of_below (bD.mono hle)).setCell (p := ⟨V.heap.size, k, none⟩) (.inl ⟨Nat.le_refl _, by show V.heap.size < V.heap.size + 3;omega⟩) _).setCell (p := ⟨V.heap.size + 1 + 1, 0, none⟩) (.inl ⟨by show V.heap.size ≤ V.heap.size + 1 + 1;omega, by show V.heap.size + 1 + 1 < V.heap.size + 3;omega⟩) _, by show OrI V n (orS (wtA sl mg xs ys) (vals (pre ++ [⟨k, hkn⟩]))) _; rw [vals_snoc, orS_snoc, ← HWK.out, ← HWS.out, ← HQ.out]; exact hId.set hkn _ _⟩
    · have q1 : decide (u - v ≥ mg) = false := by simp;omega
      obtain rfl : wk = false := by rw [hwk]; first | exact decide_eq_true ⟨by omega, by omega⟩ | exact decide_eq_false (by omega)
      clear hwk
      gi_wp2
      refine wpIn_region_any hmx ?_
      change wpAnyIn _ _ _ _ _ _ _ _ _ (World.drew W)
      generalize World.drew W = Wd at bD hId b0d b1d cbd cwd rwd rfd fwd ⊢
      refine wpAnyIn_ready (rs := [0, 1, 2, 3]) (by kernel_rfl) (by simp) ?_
      refine AllReadyIn.cons rfl (fun K hK => ?_) (AllReadyIn.cons rfl (fun K hK => ?_) (AllReadyIn.cons rfl (fun K hK => ?_) (AllReadyIn.cons rfl (fun K hK => ?_) AllReadyIn.nil)))
      · go_simp
        refine hK _ _ ?_
        clear hK K
        refine wpAnyIn_ready (rs := [1, 2, 3]) (by kernel_rfl) (by simp) ?_
        refine AllReadyIn.cons rfl (fun K hK => ?_) (AllReadyIn.cons rfl (fun K hK => ?_) (AllReadyIn.cons rfl (fun K hK => ?_) AllReadyIn.nil))
        · go_simp
          refine hK _ _ ?_
          clear hK K
          refine wpAnyIn_ready (rs := [2, 3]) (by kernel_rfl) (by simp) ?_
          refine AllReadyIn.cons rfl (fun K hK => ?_) (AllReadyIn.cons rfl (fun K hK => ?_) AllReadyIn.nil)
          · go_simp
            refine hK _ _ ?_
            clear hK K
            refine wpAnyIn_ready (rs := [3]) (by kernel_rfl) (by simp) ?_
            refine AllReadyIn.cons rfl (fun K hK => ?_) AllReadyIn.nil
            go_simp
            refine hK _ _ ?_
            clear hK K
            refine wpAnyIn_ready (rs := [4]) (by kernel_rfl) (by simp) ?_
            refine AllReadyIn.cons rfl (fun K hK => ?_) AllReadyIn.nil
            go_simp
            refine ⟨trivial, ?_⟩
            refine (CallsIn.inRound l (callsIn_wide.2 (ob_t ws false _ q HQ.out))).mono ?_
            rintro e1 W1 ⟨rfl, rfl⟩
            refine hK _ _ ?_
            clear hK K
            refine wpAnyIn_ready (rs := [5]) (by kernel_rfl) (by simp) ?_
            refine AllReadyIn.cons rfl (fun K hK => ?_) AllReadyIn.nil
            go_simp
            refine hK _ _ ?_
            clear hK K
            refine wpAnyIn_ready (rs := [6]) (by kernel_rfl) (by simp) ?_
            refine AllReadyIn.cons rfl (fun K hK => ?_) AllReadyIn.nil
            go_simp
            refine hK _ _ ?_
            clear hK K
            refine wpAnyIn_done (by kernel_rfl) ?_ _
            gi_wp2
            exact ⟨(((keepsOthers_below bD).trans (KeepsOthers.setCell _ _ _)).trans (KeepsOthers.setCell _ _ _)).from _, ((Mid.of_below (bD.mono hle)).setCell (p := ⟨V.heap.size, k, none⟩) (.inl ⟨Nat.le_refl _, by show V.heap.size < V.heap.size + 3;omega⟩) _).setCell (p := ⟨V.heap.size + 1 + 1, 0, none⟩) (.inl ⟨by show V.heap.size ≤ V.heap.size + 1 + 1;omega, by show V.heap.size + 1 + 1 < V.heap.size + 3;omega⟩) _, by show OrI V n (orS (wtA sl mg xs ys) (vals (pre ++ [⟨k, hkn⟩]))) _; rw [vals_snoc, orS_snoc, ← HWK.out, ← HWS.out, ← HQ.out]; exact hId.set hkn _ _⟩
          · go_simp
            refine hK _ _ ?_
            clear hK K
            refine wpAnyIn_ready (rs := [2]) (by kernel_rfl) (by simp) ?_
            refine AllReadyIn.cons rfl (fun K hK => ?_) AllReadyIn.nil
            go_simp
            refine hK _ _ ?_
            clear hK K
            refine wpAnyIn_ready (rs := [4]) (by kernel_rfl) (by simp) ?_
            refine AllReadyIn.cons rfl (fun K hK => ?_) AllReadyIn.nil
            go_simp
            refine ⟨trivial, ?_⟩
            refine (CallsIn.inRound l (callsIn_wide.2 (ob_t ws false _ q HQ.out))).mono ?_
            rintro e1 W1 ⟨rfl, rfl⟩
            refine hK _ _ ?_
            clear hK K
            refine wpAnyIn_ready (rs := [5]) (by kernel_rfl) (by simp) ?_
            refine AllReadyIn.cons rfl (fun K hK => ?_) AllReadyIn.nil
            go_simp
            refine hK _ _ ?_
            clear hK K
            refine wpAnyIn_ready (rs := [6]) (by kernel_rfl) (by simp) ?_
            refine AllReadyIn.cons rfl (fun K hK => ?_) AllReadyIn.nil
            go_simp
            refine hK _ _ ?_
            clear hK K
            refine wpAnyIn_done (by kernel_rfl) ?_ _
            gi_wp2
            exact ⟨(((keepsOthers_below bD).trans (KeepsOthers.setCell _ _ _)).trans (KeepsOthers.setCell _ _ _)).from _, ((Mid.of_below (bD.mono hle)).setCell (p := ⟨V.heap.size, k, none⟩) (.inl ⟨Nat.le_refl _, by show V.heap.size < V.heap.size + 3;omega⟩) _).setCell (p := ⟨V.heap.size + 1 + 1, 0, none⟩) (.inl ⟨by show V.heap.size ≤ V.heap.size + 1 + 1;omega, by show V.heap.size + 1 + 1 < V.heap.size + 3;omega⟩) _, by show OrI V n (orS (wtA sl mg xs ys) (vals (pre ++ [⟨k, hkn⟩]))) _; rw [vals_snoc, orS_snoc, ← HWK.out, ← HWS.out, ← HQ.out]; exact hId.set hkn _ _⟩
        · go_simp
          refine hK _ _ ?_
          clear hK K
          refine wpAnyIn_ready (rs := [1, 3]) (by kernel_rfl) (by simp) ?_
          refine AllReadyIn.cons rfl (fun K hK => ?_) (AllReadyIn.cons rfl (fun K hK => ?_) AllReadyIn.nil)
          · go_simp
            refine hK _ _ ?_
            clear hK K
            refine wpAnyIn_ready (rs := [3]) (by kernel_rfl) (by simp) ?_
            refine AllReadyIn.cons rfl (fun K hK => ?_) AllReadyIn.nil
            go_simp
            refine hK _ _ ?_
            clear hK K
            refine wpAnyIn_ready (rs := [4]) (by kernel_rfl) (by simp) ?_
            refine AllReadyIn.cons rfl (fun K hK => ?_) AllReadyIn.nil
            go_simp
            refine ⟨trivial, ?_⟩
            refine (CallsIn.inRound l (callsIn_wide.2 (ob_t ws false _ q HQ.out))).mono ?_
            rintro e1 W1 ⟨rfl, rfl⟩
            refine hK _ _ ?_
            clear hK K
            refine wpAnyIn_ready (rs := [5]) (by kernel_rfl) (by simp) ?_
            refine AllReadyIn.cons rfl (fun K hK => ?_) AllReadyIn.nil
            go_simp
            refine hK _ _ ?_
            clear hK K
            refine wpAnyIn_ready (rs := [6]) (by kernel_rfl) (by simp) ?_
            refine AllReadyIn.cons rfl (fun K hK => ?_) AllReadyIn.nil
            go_simp
            refine hK _ _ ?_
            clear hK K
            refine wpAnyIn_done (by kernel_rfl) ?_ _
            gi_wp2
            exact ⟨(((keepsOthers_below bD).trans (KeepsOthers.setCell _ _ _)).trans (KeepsOthers.setCell _ _ _)).from _, ((Mid.of_below (bD.mono hle)).setCell (p := ⟨V.heap.size, k, none⟩) (.inl ⟨Nat.le_refl _, by show V.heap.size < V.heap.size + 3;omega⟩) _).setCell (p := ⟨V.heap.size + 1 + 1, 0, none⟩) (.inl ⟨by show V.heap.size ≤ V.heap.size + 1 + 1;omega, by show V.heap.size + 1 + 1 < V.heap.size + 3;omega⟩) _, by show OrI V n (orS (wtA sl mg xs ys) (vals (pre ++ [⟨k, hkn⟩]))) _; rw [vals_snoc, orS_snoc, ← HWK.out, ← HWS.out, ← HQ.out]; exact hId.set hkn _ _⟩
          · go_simp
            refine hK _ _ ?_
            clear hK K
            refine wpAnyIn_ready (rs := [1, 4]) (by kernel_rfl) (by simp) ?_
            refine AllReadyIn.cons rfl (fun K hK => ?_) (AllReadyIn.cons rfl (fun K hK => ?_) AllReadyIn.nil)
            · go_simp
              refine hK _ _ ?_
              clear hK K
              refine wpAnyIn_ready (rs := [4]) (by kernel_rfl) (by simp) ?_
              refine AllReadyIn.cons rfl (fun K hK => ?_) AllReadyIn.nil
              go_simp
              refine ⟨trivial, ?_⟩
              refine (CallsIn.inRound l (callsIn_wide.2 (ob_t ws false _ q HQ.out))).mono ?_
              rintro e1 W1 ⟨rfl, rfl⟩
              refine hK _ _ ?_
              clear hK K
              refine wpAnyIn_ready (rs := [5]) (by kernel_rfl) (by simp) ?_
              refine AllReadyIn.cons rfl (fun K hK => ?_) AllReadyIn.nil
              go_simp
              refine hK _ _ ?_
              clear hK K
              refine wpAnyIn_ready (rs := [6]) (by kernel_rfl) (by simp) ?_
              refine AllReadyIn.cons rfl (fun K hK => ?_) AllReadyIn.nil
              go_simp
              refine hK _ _ ?_
              clear hK K
              refine wpAnyIn_done (by kernel_rfl) ?_ _
              gi_wp2
              exact ⟨(((keepsOthers_below bD).trans (KeepsOthers.setCell _ _ _)).trans (KeepsOthers.setCell _ _ _)).from _, ((Mid.of_below (bD.mono hle)).setCell (p := ⟨V.heap.size, k, none⟩) (.inl ⟨Nat.le_refl _, by show V.heap.size < V.heap.size + 3;omega⟩) _).setCell (p := ⟨V.heap.size + 1 + 1, 0, none⟩) (.inl ⟨by show V.heap.size ≤ V.heap.size + 1 + 1;omega, by show V.heap.size + 1 + 1 < V.heap.size + 3;omega⟩) _, by show OrI V n (orS (wtA sl mg xs ys) (vals (pre ++ [⟨k, hkn⟩]))) _; rw [vals_snoc, orS_snoc, ← HWK.out, ← HWS.out, ← HQ.out]; exact hId.set hkn _ _⟩
            · go_simp
              refine ⟨trivial, ?_⟩
              refine (CallsIn.inRound l (callsIn_wide.2 (ob_t ws false _ q HQ.out))).mono ?_
              rintro e1 W1 ⟨rfl, rfl⟩
              refine hK _ _ ?_
              clear hK K
              refine wpAnyIn_ready (rs := [1]) (by kernel_rfl) (by simp) ?_
              refine AllReadyIn.cons rfl (fun K hK => ?_) AllReadyIn.nil
              go_simp
              refine hK _ _ ?_
              clear hK K
              refine wpAnyIn_ready (rs := [5]) (by kernel_rfl) (by simp) ?_
              refine AllReadyIn.cons rfl (fun K hK => ?_) AllReadyIn.nil
              go_simp
              refine hK _ _ ?_
              clear hK K
              refine wpAnyIn_ready (rs := [6]) (by kernel_rfl) (by simp) ?_
              refine AllReadyIn.cons rfl (fun K hK => ?_) AllReadyIn.nil
              go_simp
              refine hK _ _ ?_
              clear hK K
              refine wpAnyIn_done (by kernel_rfl) ?_ _
              gi_wp2
              exact ⟨(((keepsOthers_below bD).trans (KeepsOthers.setCell _ _ _)).trans (KeepsOthers.setCell _ _ _)).from _, ((Mid.of_below (bD.mono hle)).setCell (p := ⟨V.heap.size, k, none⟩) (.inl ⟨Nat.le_refl _, by show V.heap.size < V.heap.size + 3;omega⟩) _).setCell (p := ⟨V.heap.size + 1 + 1, 0, none⟩) (.inl ⟨by show V.heap.size ≤ V.heap.size + 1 + 1;omega, by show V.heap.size + 1 + 1 < V.heap.size + 3;omega⟩) _, by show OrI V n (orS (wtA sl mg xs ys) (vals (pre ++ [⟨k, hkn⟩]))) _; rw [vals_snoc, orS_snoc, ← HWK.out, ← HWS.out, ← HQ.out]; exact hId.set hkn _ _⟩
        · go_simp
          refine hK _ _ ?_
          clear hK K
          refine wpAnyIn_ready (rs := [1, 2]) (by kernel_rfl) (by simp) ?_
          refine AllReadyIn.cons rfl (fun K hK => ?_) (AllReadyIn.cons rfl (fun K hK => ?_) AllReadyIn.nil)
          · go_simp
            refine hK _ _ ?_
            clear hK K
            refine wpAnyIn_ready (rs := [2]) (by kernel_rfl) (by simp) ?_
            refine AllReadyIn.cons rfl (fun K hK => ?_) AllReadyIn.nil
            go_simp
            refine hK _ _ ?_
            clear hK K
            refine wpAnyIn_ready (rs := [4]) (by kernel_rfl) (by simp) ?_
            refine AllReadyIn.cons rfl (fun K hK => ?_) AllReadyIn.nil
            go_simp
            refine ⟨trivial, ?_⟩
            refine (CallsIn.inRound l (callsIn_wide.2 (ob_t ws false _ q HQ.out))).mono ?_
            rintro e1 W1 ⟨rfl, rfl⟩
            refine hK _ _ ?_
            clear hK K
            refine wpAnyIn_ready (rs := [5]) (by kernel_rfl) (by simp) ?_
            refine AllReadyIn.cons rfl (fun K hK => ?_) AllReadyIn.nil
            go_simp
            refine hK _ _ ?_
            clear hK K
            refine wpAnyIn_ready (rs := [6]) (by kernel_rfl) (by simp) ?_
            refine AllReadyIn.cons rfl (fun K hK => ?_) AllReadyIn.nil
            go_simp
            refine hK _ _ ?_
            clear hK K
            refine wpAnyIn_done (by kernel_rfl) ?_ _
            gi_wp2
            exact ⟨(((keepsOthers_below bD).trans (KeepsOthers.setCell _ _ _)).trans (KeepsOthers.setCell _ _ _)).from _, ((Mid.of_below (bD.mono hle)).setCell (p := ⟨V.heap.size, k, none⟩) (.inl ⟨Nat.le_refl _, by show V.heap.size < V.heap.size + 3;omega⟩) _).setCell (p := ⟨V.heap.size + 1 + 1, 0, none⟩) (.inl ⟨by show V.heap.size ≤ V.heap.size + 1 + 1;omega, by show V.heap.size + 1 + 1 < V.heap.size + 3;omega⟩) _, by show OrI V n (orS (wtA sl mg xs ys) (vals (pre ++ [⟨k, hkn⟩]))) _; rw [vals_snoc, orS_snoc, ← HWK.out, ← HWS.out, ← HQ.out]; exact hId.set hkn _ _⟩
          · go_simp
            refine hK _ _ ?_
            clear hK K
            refine wpAnyIn_ready (rs := [1, 4]) (by kernel_rfl) (by simp) ?_
            refine AllReadyIn.cons rfl (fun K hK => ?_) (AllReadyIn.cons rfl (fun K hK => ?_) AllReadyIn.nil)
            · go_simp
              refine hK _ _ ?_
              clear hK K
              refine wpAnyIn_ready (rs := [4]) (by kernel_rfl) (by simp) ?_
              refine AllReadyIn.cons rfl (fun K hK => ?_) AllReadyIn.nil
              go_simp
              refine ⟨trivial, ?_⟩
              refine (CallsIn.inRound l (callsIn_wide.2 (ob_t ws false _ q HQ.out))).mono ?_
              rintro e1 W1 ⟨rfl, rfl⟩
              refine hK _ _ ?_
              clear hK K
              refine wpAnyIn_ready (rs := [5]) (by kernel_rfl) (by simp) ?_
              refine AllReadyIn.cons rfl (fun K hK => ?_) AllReadyIn.nil
              go_simp
              refine hK _ _ ?_
              clear hK K
              refine wpAnyIn_ready (rs := [6]) (by kernel_rfl) (by simp) ?_
              refine AllReadyIn.cons rfl (fun K hK => ?_) AllReadyIn.nil
              go_simp
              refine hK _ _ ?_
              clear hK K
              refine wpAnyIn_done (by kernel_rfl) ?_ _
              gi_wp2
              exact ⟨(((keepsOthers_below bD).trans (KeepsOthers.setCell _ _ _)).trans (KeepsOthers.setCell _ _ _)).from _, ((Mid.of_below (bD.mono hle)).setCell (p := ⟨V.heap.size, k, none⟩) (.inl ⟨Nat.le_refl _, by show V.heap.size < V.heap.size + 3;omega⟩) _).setCell (p := ⟨V.heap.size + 1 + 1, 0, none⟩) (.inl ⟨by show V.heap.size ≤ V.heap.size + 1 + 1;omega, by show V.heap.size + 1 + 1 < V.heap.size + 3;omega⟩) _, by show OrI V n (orS (wtA sl mg xs ys) (vals (pre ++ [⟨k, hkn⟩]))) _; rw [vals_snoc, orS_snoc, ← HWK.out, ← HWS.out, ← HQ.out]; exact hId.set hkn _ _⟩
            · go_simp
              refine ⟨trivial, ?_⟩
              refine (CallsIn.inRound l (callsIn_wide.2 (ob_t ws false _ q HQ.out))).mono ?_
              rintro e1 W1 ⟨rfl, rfl⟩
              refine hK _ _ ?_
              clear hK K
              refine wpAnyIn_ready (rs := [1]) (by kernel_rfl) (by simp) ?_
              refine AllReadyIn.cons rfl (fun K hK => ?_) AllReadyIn.nil
              go_simp
              refine hK _ _ ?_
              clear hK K
              refine wpAnyIn_ready (rs := [5]) (by kernel_rfl) (by simp) ?_
              refine AllReadyIn.cons rfl (fun K hK => ?_) AllReadyIn.nil
              go_simp
              refine hK _ _ ?_
              clear hK K
              refine wpAnyIn_ready (rs := [6]) (by kernel_rfl) (by simp) ?_
              refine AllReadyIn.cons rfl (fun K hK => ?_) AllReadyIn.nil
              go_simp
              refine hK _ _ ?_
              clear hK K
              refine wpAnyIn_done (by kernel_rfl) ?_ _
              gi_wp2
              exact ⟨(((keepsOthers_below bD).trans (KeepsOthers.setCell _ _ _)).trans (KeepsOthers.setCell _ _ _)).from _, ((Mid.of_below (bD.mono hle)).setCell (p := ⟨V.heap.size, k, none⟩) (.inl ⟨Nat.le_refl _, by show V.heap.size < V.heap.size + 3;omega⟩) _).setCell (p := ⟨V.heap.size + 1 + 1, 0, none⟩) (.inl ⟨by show V.heap.size ≤ V.heap.size + 1 + 1;omega, by show V.heap.size + 1 + 1 < V.heap.size + 3;omega⟩) _, by show OrI V n (orS (wtA sl mg xs ys) (vals (pre ++ [⟨k, hkn⟩]))) _; rw [vals_snoc, orS_snoc, ← HWK.out, ← HWS.out, ← HQ.out]; exact hId.set hkn _ _⟩
      · go_simp
        refine hK _ _ ?_
        clear hK K
        refine wpAnyIn_ready (rs := [0, 2, 3]) (by kernel_rfl) (by simp) ?_
        refine AllReadyIn.cons rfl (fun K hK => ?_) (AllReadyIn.cons rfl (fun K hK => ?_) (AllReadyIn.cons rfl (fun K hK => ?_) AllReadyIn.nil))
        · go_simp
          refine hK _ _ ?_
          clear hK K
          refine wpAnyIn_ready (rs := [2, 3]) (by kernel_rfl) (by simp) ?_
          refine AllReadyIn.cons rfl (fun K hK => ?_) (AllReadyIn.cons rfl (fun K hK => ?_) AllReadyIn.nil)
          · go_simp
            refine hK _ _ ?_
            clear hK K
            refine wpAnyIn_ready (rs := [3]) (by kernel_rfl) (by simp) ?_
            refine AllReadyIn.cons rfl (fun K hK => ?_) AllReadyIn.nil
            go_simp
            refine hK _ _ ?_
            clear hK K
            refine wpAnyIn_ready (rs := [4]) (by kernel_rfl) (by simp) ?_
            refine AllReadyIn.cons rfl (fun K hK => ?_) AllReadyIn.nil
            go_simp
            refine ⟨trivial, ?_⟩
            refine (CallsIn.inRound l (callsIn_wide.2 (ob_t ws false _ q HQ.out))).mono ?_
            rintro e1 W1 ⟨rfl, rfl⟩
            refine hK _ _ ?_
            clear hK K
            refine wpAnyIn_ready (rs := [5]) (by kernel_rfl) (by simp) ?_
            refine AllReadyIn.cons rfl (fun K hK => ?_) AllReadyIn.nil
            go_simp
            refine hK _ _ ?_
            clear hK K
            refine wpAnyIn_ready (rs := [6]) (by kernel_rfl) (by simp) ?_
            refine AllReadyIn.cons rfl (fun K hK => ?_) AllReadyIn.nil
            go_simp
            refine hK _ _ ?_
            clear hK K
            refine wpAnyIn_done (by kernel_rfl) ?_ _
            gi_wp2
            exact ⟨(((keepsOthers_below bD).trans (KeepsOthers.setCell _ _ _)).trans (KeepsOthers.setCell _ _ _)).from _, ((Mid.of_below (bD.mono hle)).setCell (p := ⟨V.heap.size, k, none⟩) (.inl ⟨Nat.le_refl _, by show V.heap.size < V.heap.size + 3;omega⟩) _).setCell (p := ⟨V.heap.size + 1 + 1, 0, none⟩) (.inl ⟨by show V.heap.size ≤ V.heap.size + 1 + 1;omega, by show V.heap.size + 1 + 1 < V.heap.size + 3;omega⟩) _, by show OrI V n (orS (wtA sl mg xs ys) (vals (pre ++ [⟨k, hkn⟩]))) _; rw [vals_snoc, orS_snoc, ← HWK.out, ← HWS.out, ← HQ.out]; exact hId.set hkn _ _⟩
          · go_simp
            refine hK _ _ ?_
            clear hK K
            refine wpAnyIn_ready (rs := [2]) (by kernel_rfl) (by simp) ?_
            refine AllReadyIn.cons rfl (fun K hK => ?_) AllReadyIn.nil
            go_simp
            refine hK _ _ ?_
            clear hK K
            refine wpAnyIn_ready (rs := [4]) (by kernel_rfl) (by simp) ?_
            refine AllReadyIn.cons rfl (fun K hK => ?_) AllReadyIn.nil
            go_simp
            refine ⟨trivial, ?_⟩
            refine (CallsIn.inRound l (callsIn_wide.2 (ob_t ws false _ q HQ.out))).mono ?_
            rintro e1 W1 ⟨rfl, rfl⟩
            refine hK _ _ ?_
            clear hK K
            refine wpAnyIn_ready (rs := [5]) (by kernel_rfl) (by simp) ?_
            refine AllReadyIn.cons rfl (fun K hK => ?_) AllReadyIn.nil
            go_simp
            refine hK _ _ ?_
            clear hK K
            refine wpAnyIn_ready (rs := [6]) (by kernel_rfl) (by simp) ?_
            refine AllReadyIn.cons rfl (fun K hK => ?_) AllReadyIn.nil
            go_simp
            refine hK _ _ ?_
            clear hK K
            refine wpAnyIn_done (by kernel_rfl) ?_ _
            gi_wp2
            exact ⟨(((keepsOthers_below bD).trans (KeepsOthers.setCell _ _ _)).trans (KeepsOthers.setCell _ _ _)).from _, ((Mid.of_below (bD.mono hle)).setCell (p := ⟨V.heap.size, k, none⟩) (.inl ⟨Nat.le_refl _, by show V.heap.size < V.heap.size + 3;omega⟩) _).setCell (p := ⟨V.heap.size + 1 + 1, 0, none⟩) (.inl ⟨by show V.heap.size ≤ V.heap.size + 1 + 1;omega, by show V.heap.size + 1 + 1 < V.heap.size + 3;omega⟩) _, by show OrI V n (orS (wtA sl mg xs ys) (vals (pre ++ [⟨k, hkn⟩]))) _; rw [vals_snoc, orS_snoc, ← HWK.out, ← HWS.out, ← HQ.out]; exact hId.set hkn _ _⟩
        · go_simp
          refine hK _ _ ?_
          clear hK K
          refine wpAnyIn_ready (rs := [0, 3]) (by kernel_rfl) (by simp) ?_
          refine AllReadyIn.cons rfl (fun K hK => ?_) (AllReadyIn.cons rfl (fun K hK => ?_) AllReadyIn.nil)
          · go_simp
            refine hK _ _ ?_
            clear hK K
            refine wpAnyIn_ready (rs := [3]) (by kernel_rfl) (by simp) ?_
            refine AllReadyIn.cons rfl (fun K hK => ?_) AllReadyIn.nil
            go_simp
            refine hK _ _ ?_
            clear hK K
            refine wpAnyIn_ready (rs := [4]) (by kernel_rfl) (by simp) ?_
            refine AllReadyIn.cons rfl (fun K hK => ?_) AllReadyIn.nil
            go_simp
            refine ⟨trivial, ?_⟩
            refine (CallsIn.inRound l (callsIn_wide.2 (ob_t ws false _ q HQ.out))).mono ?_
            rintro e1 W1 ⟨rfl, rfl⟩
            refine hK _ _ ?_
            clear hK K
            refine wpAnyIn_ready (rs := [5]) (by kernel_rfl) (by simp) ?_
            refine AllReadyIn.cons rfl (fun K hK => ?_) AllReadyIn.nil
            go_simp
            refine hK _ _ ?_
            clear hK K
            refine wpAnyIn_ready (rs := [6]) (by kernel_rfl) (by simp) ?_
            refine AllReadyIn.cons rfl (fun K hK => ?_) AllReadyIn.nil
            go_simp
            refine hK _ _ ?_
            clear hK K
            refine wpAnyIn_done (by kernel_rfl) ?_ _
            gi_wp2
            exact ⟨(((keepsOthers_below bD).trans (KeepsOthers.setCell _ _ _)).trans (KeepsOthers.setCell _ _ _)).from _, ((Mid.of_below (bD.mono hle)).setCell (p := ⟨V.heap.size, k, none⟩) (.inl ⟨Nat.le_refl _, by show V.heap.size < V.heap.size + 3;omega⟩) _).setCell (p := ⟨V.heap.size + 1 + 1, 0, none⟩) (.inl ⟨by show V.heap.size ≤ V.heap.size + 1 + 1;omega, by show V.heap.size + 1 + 1 < V.heap.size + 3;omega⟩) _, by show OrI V n (orS (wtA sl mg xs ys) (vals (pre ++ [⟨k, hkn⟩]))) _; rw [vals_snoc, orS_snoc, ← HWK.out, ← HWS.out, ← HQ.out]; exact hId.set hkn _ _⟩
          · go_simp
            refine hK _ _ ?_
            clear hK K
            refine wpAnyIn_ready (rs := [0, 4]) (by kernel_rfl) (by simp) ?_
            refine AllReadyIn.cons rfl (fun K hK => ?_) (AllReadyIn.cons rfl (fun K hK => ?_) AllReadyIn.nil)
            · go_simp
              refine hK _ _ ?_
              clear hK K
              refine wpAnyIn_ready (rs := [4]) (by kernel_rfl) (by simp) ?_
              refine AllReadyIn.cons rfl (fun K hK => ?_) AllReadyIn.nil
              go_simp
              refine ⟨trivial, ?_⟩
              refine (CallsIn.inRound l (callsIn_wide.2 (ob_t ws false _ q HQ.out))).mono ?_
              rintro e1 W1 ⟨rfl, rfl⟩
              refine hK _ _ ?_
              clear hK K
              refine wpAnyIn_ready (rs := [5]) (by kernel_rfl) (by simp) ?_
              refine AllReadyIn.cons rfl (fun K hK => ?_) AllReadyIn.nil
              go_simp
              refine hK _ _ ?_
              clear hK K
              refine wpAnyIn_ready (rs := [6]) (by kernel_rfl) (by simp) ?_
              refine AllReadyIn.cons rfl (fun K hK => ?_) AllReadyIn.nil
              go_simp
              refine hK _ _ ?_
              clear hK K
              refine wpAnyIn_done (by kernel_rfl) ?_ _
              gi_wp2
              exact ⟨(((keepsOthers_below bD).trans (KeepsOthers.setCell _ _ _)).trans (KeepsOthers.setCell _ _ _)).from _, ((Mid.of_below (bD.mono hle)).setCell (p := ⟨V.heap.size, k, none⟩) (.inl ⟨Nat.le_refl _, by show V.heap.size < V.heap.size + 3;omega⟩) _).setCell (p := ⟨V.heap.size + 1 + 1, 0, none⟩) (.inl ⟨by show V.heap.size ≤ V.heap.size + 1 + 1;omega, by show V.heap.size + 1 + 1 < V.heap.size + 3;omega⟩) _, by show OrI V n (orS (wtA sl mg xs ys) (vals (pre ++ [⟨k, hkn⟩]))) _; rw [vals_snoc, orS_snoc, ← HWK.out, ← HWS.out, ← HQ.out]; exact hId.set hkn _ _⟩
            · go_simp
              refine ⟨trivial, ?_⟩
              refine (CallsIn.inRound l (callsIn_wide.2 (ob_t ws false _ q HQ.out))).mono ?_
              rintro e1 W1 ⟨rfl, rfl⟩
              refine hK _ _ ?_
              clear hK K
              refine wpAnyIn_ready (rs := [0]) (by kernel_rfl) (by simp) ?_
              refine AllReadyIn.cons rfl (fun K hK => ?_) AllReadyIn.nil
              go_simp
              refine hK _ _ ?_
              clear hK K
              refine wpAnyIn_ready (rs := [5]) (by kernel_rfl) (by simp) ?_
              refine AllReadyIn.cons rfl (fun K hK => ?_) AllReadyIn.nil
              go_simp
              refine hK _ _ ?_
              clear hK K
              refine wpAnyIn_ready (rs := [6]) (by kernel_rfl) (by simp) ?_
              refine AllReadyIn.cons rfl (fun K hK => ?_) AllReadyIn.nil
              go_simp
              refine hK _ _ ?_
              clear hK K
              refine wpAnyIn_done (by kernel_rfl) ?_ _
              gi_wp2
              exact ⟨(((keepsOthers_below bD).trans (KeepsOthers.setCell _ _ _)).trans (KeepsOthers.setCell _ _ _)).from _, ((Mid.of_below (bD.mono hle)).setCell (p := ⟨V.heap.size, k, none⟩) (.inl ⟨Nat.le_refl _, by show V.heap.size < V.heap.size + 3;omega⟩) _).setCell (p := ⟨V.heap.size + 1 + 1, 0, none⟩) (.inl ⟨by show V.heap.size ≤ V.heap.size + 1 + 1;omega, by show V.heap.size + 1 + 1 < V.heap.size + 3;omega⟩) _, by show OrI V n (orS (wtA sl mg xs ys) (vals (pre ++ [⟨k, hkn⟩]))) _; rw [vals_snoc, orS_snoc, ← HWK.out, ← HWS.out, ← HQ.out]; exact hId.set hkn _ _⟩
        · go_simp
          refine hK _ _ ?_
          clear hK K
          refine wpAnyIn_ready (rs := [0, 2]) (by kernel_rfl) (by simp) ?_
          refine AllReadyIn.cons rfl (fun K hK => ?_) (AllReadyIn.cons rfl (fun K hK => ?_) AllReadyIn.nil)
          · go_simp
            refine hK _ _ ?_
            clear hK K
            refine wpAnyIn_ready (rs := [2]) (by kernel_rfl) (by simp) ?_
            refine AllReadyIn.cons rfl (fun K hK => ?_) AllReadyIn.nil
            go_simp
            refine hK _ _ ?_
            clear hK K
            refine wpAnyIn_ready (rs := [4]) (by kernel_rfl) (by simp) ?_
            refine AllReadyIn.cons rfl (fun K hK => ?_) AllReadyIn.nil
            go_simp
            refine ⟨trivial, ?_⟩
            refine (CallsIn.inRound l (callsIn_wide.2 (ob_t ws false _ q HQ.out))).mono ?_
            rintro e1 W1 ⟨rfl, rfl⟩
            refine hK _ _ ?_
            clear hK K
            refine wpAnyIn_ready (rs := [5]) (by kernel_rfl) (by simp) ?_
            refine AllReadyIn.cons rfl (fun K hK => ?_) AllReadyIn.nil
            go_simp
            refine hK _ _ ?_
            clear hK K
            refine wpAnyIn_ready (rs := [6]) (by kernel_rfl) (by simp) ?_
            refine AllReadyIn.cons rfl (fun K hK => ?_) AllReadyIn.nil
            go_simp
            refine hK _ _ ?_
            clear hK K
            refine wpAnyIn_done (by kernel_rfl) ?_ _
            gi_wp2
            exact ⟨(((keepsOthers_below bD).trans (KeepsOthers.setCell _ _ _)).trans (KeepsOthers.setCell _ _ _)).from _, ((Mid.of_below (bD.mono hle)).setCell (p := ⟨V.heap.size, k, none⟩) (.inl ⟨Nat.le_refl _, by show V.heap.size < V.heap.size + 3;omega⟩) _).setCell (p := ⟨V.heap.size + 1 + 1, 0, none⟩) (.inl ⟨by show V.heap.size ≤ V.heap.size + 1 + 1;omega, by show V.heap.size + 1 + 1 < V.heap.size + 3;omega⟩) _, by show OrI V n (orS (wtA sl mg xs ys) (vals (pre ++ [⟨k, hkn⟩]))) _; rw [vals_snoc, orS_snoc, ← HWK.out, ← HWS.out, ← HQ.out]; exact hId.set hkn _ _⟩
          · go_simp
            refine hK _ _ ?_
            clear hK K
            refine wpAnyIn_ready (rs := [0, 4]) (by kernel_rfl) (by simp) ?_
            refine AllReadyIn.cons rfl (fun K hK => ?_) (AllReadyIn.cons rfl (fun K hK => ?_) AllReadyIn.nil)
            · go_simp
              refine hK _ _ ?_
              clear hK K
              refine wpAnyIn_ready (rs := [4]) (by kernel_rfl) (by simp) ?_
              refine AllReadyIn.cons rfl (fun K hK => ?_) AllReadyIn.nil
              go_simp
              refine ⟨trivial, ?_⟩
              refine (CallsIn.inRound l (callsIn_wide.2 (ob_t ws false _ q HQ.out))).mono ?_
              rintro e1 W1 ⟨rfl, rfl⟩
              refine hK _ _ ?_
              clear hK K
              refine wpAnyIn_ready (rs := [5]) (by kernel_rfl) (by simp) ?_
              refine AllReadyIn.cons rfl (fun K hK => ?_) AllReadyIn.nil
              go_simp
              refine hK _ _ ?_
              clear hK K
              refine wpAnyIn_ready (rs := [6]) (by kernel_rfl) (by simp) ?_
              refine AllReadyIn.cons rfl (fun K hK => ?_) AllReadyIn.nil
              go_simp
              refine hK _ _ ?_
              clear hK K
              refine wpAnyIn_done (by kernel_rfl) ?_ _
              gi_wp2
              exact ⟨(((keepsOthers_below bD).trans (KeepsOthers.setCell _ _ _)).trans (KeepsOthers.setCell _ _ _)).from _, ((Mid.of_below (bD.mono hle)).setCell (p := ⟨V.heap.size, k, none⟩) (.inl ⟨Nat.le_refl _, by show V.heap.size < V.heap.size + 3;omega⟩) _).setCell (p := ⟨V.heap.size + 1 + 1, 0, none⟩) (.inl ⟨by show V.heap.size ≤ V.heap.size + 1 + 1;omega, by show V.heap.size + 1 + 1 < V.heap.size + 3;omega⟩) _, by show OrI V n (orS (wtA sl mg xs ys) (vals (pre ++ [⟨k, hkn⟩]))) _; rw [vals_snoc, orS_snoc, ← HWK.out, ← HWS.out, ← HQ.out]; exact hId.set hkn _ _⟩
            · go_simp
              refine ⟨trivial, ?_⟩
              refine (CallsIn.inRound l (callsIn_wide.2 (ob_t ws false _ q HQ.out))).mono ?_
              rintro e1 W1 ⟨rfl, rfl⟩
              refine hK _ _ ?_
              clear hK K
              refine wpAnyIn_ready (rs := [0]) (by kernel_rfl) (by simp) ?_
              refine AllReadyIn.cons rfl (fun K hK => ?_) AllReadyIn.nil
              go_simp
              refine hK _ _ ?_
              clear hK K
              refine wpAnyIn_ready (rs := [5]) (by kernel_rfl) (by simp) ?_
              refine AllReadyIn.cons rfl (fun K hK => ?_) AllReadyIn.nil
              go_simp
              refine hK _ _ ?_
              clear hK K
              refine wpAnyIn_ready (rs := [6]) (by kernel_rfl) (by simp) ?_
              refine AllReadyIn.cons rfl (fun K hK => ?_) AllReadyIn.nil
              go_simp
              refine hK _ _ ?_
              clear hK K
              refine wpAnyIn_done (by kernel_rfl) ?_ _
              gi_wp2
              exact ⟨(((keepsOthers_below bD).trans (KeepsOthers.setCell _ _ _)).trans (KeepsOthers.setCell _ _ _)).from _, ((Mid.of_below (bD.mono hle)).setCell (p := ⟨V.heap.size, k, none⟩) (.inl ⟨Nat.le_refl _, by show V.heap.size < V.heap.size + 3;omega⟩) _).setCell (p := ⟨V.heap.size + 1 + 1, 0, none⟩) (.inl ⟨by show V.heap.size ≤ V.heap.size + 1 + 1;omega, by show V.heap.size + 1 + 1 < V.heap.size + 3;omega⟩) _, by show OrI V n (orS (wtA sl mg xs ys) (vals (pre ++ [⟨k, hkn⟩]))) _; rw [vals_snoc, orS_snoc, ← HWK.out, ← HWS.out, ← HQ.out]; exact hId.set hkn _ _⟩
      · go_simp
        refine hK _ _ ?_
        clear hK K
        refine wpAnyIn_ready (rs := [0, 1, 3]) (by kernel_rfl) (by simp) ?_
        refine AllReadyIn.cons rfl (fun K hK => ?_) (AllReadyIn.cons rfl (fun K hK => ?_) (AllReadyIn.cons rfl (fun K hK => ?_) AllReadyIn.nil))
        · go_simp
          refine hK _ _ ?_
          clear hK K
          refine wpAnyIn_ready (rs := [1, 3]) (by kernel_rfl) (by simp) ?_
          refine AllReadyIn.cons rfl (fun K hK => ?_) (AllReadyIn.cons rfl (fun K hK => ?_) AllReadyIn.nil)
          · go_simp
            refine hK _ _ ?_
            clear hK K
            refine wpAnyIn_ready (rs := [3]) (by kernel_rfl) (by simp) ?_
            refine AllReadyIn.cons rfl (fun K hK => ?_) AllReadyIn.nil
            go_simp
            refine hK _ _ ?_
            clear hK K
            refine wpAnyIn_ready (rs := [4]) (by kernel_rfl) (by simp) ?_
            refine AllReadyIn.cons rfl (fun K hK => ?_) AllReadyIn.nil
            go_simp
            refine ⟨trivial, ?_⟩
            refine (CallsIn.inRound l (callsIn_wide.2 (ob_t ws false _ q HQ.out))).mono ?_
            rintro e1 W1 ⟨rfl, rfl⟩
            refine hK _ _ ?_
            clear hK K
            refine wpAnyIn_ready (rs := [5]) (by kernel_rfl) (by simp) ?_
            refine AllReadyIn.cons rfl (fun K hK => ?_) AllReadyIn.nil
            go_simp
            refine hK _ _ ?_
            clear hK K
            refine wpAnyIn_ready (rs := [6]) (by kernel_rfl) (by simp) ?_
            refine AllReadyIn.cons rfl (fun K hK => ?_) AllReadyIn.nil
            go_simp
            refine hK _ _ ?_
            clear hK K
            refine wpAnyIn_done (by kernel_rfl) ?_ _
            gi_wp2
            exact ⟨(((keepsOthers_below bD).trans (KeepsOthers.setCell _ _ _)).trans (KeepsOthers.setCell _ _ _)).from _, ((Mid.of_below (bD.mono hle)).setCell (p := ⟨V.heap.size, k, none⟩) (.inl ⟨Nat.le_refl _, by show V.heap.size < V.heap.size + 3;omega⟩) _).setCell (p := ⟨V.heap.size + 1 + 1, 0, none⟩) (.inl ⟨by show V.heap.size ≤ V.heap.size + 1 + 1;omega, by show V.heap.size + 1 + 1 < V.heap.size + 3;omega⟩) _, by show OrI V n (orS (wtA sl mg xs ys) (vals (pre ++ [⟨k, hkn⟩]))) _; rw [vals_snoc, orS_snoc, ← HWK.out, ← HWS.out, ← HQ.out]; exact hId.set hkn _ _⟩
          · go_simp
            refine hK _ _ ?_
            clear hK K
            refine wpAnyIn_ready (rs := [1, 4]) (by kernel_rfl) (by simp) ?_
            refine AllReadyIn.cons rfl (fun K hK => ?_) (AllReadyIn.cons rfl (fun K hK => ?_) AllReadyIn.nil)
            · go_simp
              refine hK _ _ ?_
              clear hK K
              refine wpAnyIn_ready (rs := [4]) (by kernel_rfl) (by simp) ?_
              refine AllReadyIn.cons rfl (fun K hK => ?_) AllReadyIn.nil
              go_simp
              refine ⟨trivial, ?_⟩
              refine (CallsIn.inRound l (callsIn_wide.2 (ob_t ws false _ q HQ.out))).mono ?_
              rintro e1 W1 ⟨rfl, rfl⟩
              refine hK _ _ ?_
              clear hK K
              refine wpAnyIn_ready (rs := [5]) (by kernel_rfl) (by simp) ?_
              refine AllReadyIn.cons rfl (fun K hK => ?_) AllReadyIn.nil
              go_simp
              refine hK _ _ ?_
              clear hK K
              refine wpAnyIn_ready (rs := [6]) (by kernel_rfl) (by simp) ?_
              refine AllReadyIn.cons rfl (fun K hK => ?_) AllReadyIn.nil
              go_simp
              refine hK _ _ ?_
              clear hK K
              refine wpAnyIn_done (by kernel_rfl) ?_ _
              gi_wp2
              exact ⟨(((keepsOthers_below bD).trans (KeepsOthers.setCell _ _ _)).trans (KeepsOthers.setCell _ _ _)).from _, ((Mid.of_below (bD.mono hle)).setCell (p := ⟨V.heap.size, k, none⟩) (.inl ⟨Nat.le_refl _, by show V.heap.size < V.heap.size + 3;omega⟩) _).setCell (p := ⟨V.heap.size + 1 + 1, 0, none⟩) (.inl ⟨by show V.heap.size ≤ V.heap.size + 1 + 1;omega, by show V.heap.size + 1 + 1 < V.heap.size + 3;omega⟩) _, by show OrI V n (orS (wtA sl mg xs ys) (vals (pre ++ [⟨k, hkn⟩]))) _; rw [vals_snoc, orS_snoc, ← HWK.out, ← HWS.out, ← HQ.out]; exact hId.set hkn _ _⟩
            · go_simp
              refine ⟨trivial, ?_⟩
              refine (CallsIn.inRound l (callsIn_wide.2 (ob_t ws false _ q HQ.out))).mono ?_
              rintro e1 W1 ⟨rfl, rfl⟩
              refine hK _ _ ?_
              clear hK K
              refine wpAnyIn_ready (rs := [1]) (by kernel_rfl) (by simp) ?_
              refine AllReadyIn.cons rfl (fun K hK => ?_) AllReadyIn.nil
              go_simp
              refine hK _ _ ?_
              clear hK K
              refine wpAnyIn_ready (rs := [5]) (by kernel_rfl) (by simp) ?_
              refine AllReadyIn.cons rfl (fun K hK => ?_) AllReadyIn.nil
              go_simp
              refine hK _ _ ?_
              clear hK K
              refine wpAnyIn_ready (rs := [6]) (by kernel_rfl) (by simp) ?_
              refine AllReadyIn.cons rfl (fun K hK => ?_) AllReadyIn.nil
              go_simp
              refine hK _ _ ?_
              clear hK K
              refine wpAnyIn_done (by kernel_rfl) ?_ _
              gi_wp2
              exact ⟨(((keepsOthers_below bD).trans (KeepsOthers.setCell _ _ _)).trans (KeepsOthers.setCell _ _ _)).from _, ((Mid.of_below (bD.mono hle)).setCell (p := ⟨V.heap.size, k, none⟩) (.inl ⟨Nat.le_refl _, by show V.heap.size < V.heap.size + 3;omega⟩) _).setCell (p := ⟨V.heap.size + 1 + 1, 0, none⟩) (.inl ⟨by show V.heap.size ≤ V.heap.size + 1 + 1;omega, by show V.heap.size + 1 + 1 < V.heap.size + 3;omega⟩) _, by show OrI V n (orS (wtA sl mg xs ys) (vals (pre ++ [⟨k, hkn⟩]))) _; rw [vals_snoc, orS_snoc, ← HWK.out, ← HWS.out, ← HQ.out]; exact hId.set hkn _ _⟩
        · go_simp
          refine hK _ _ ?_
          clear hK K
          refine wpAnyIn_ready (rs := [0, 3]) (by kernel_rfl) (by simp) ?_
          refine AllReadyIn.cons rfl (fun K hK => ?_) (AllReadyIn.cons rfl (fun K hK => ?_) AllReadyIn.nil)
          · go_simp
            refine hK _ _ ?_
            clear hK K
            refine wpAnyIn_ready (rs := [3]) (by kernel_rfl) (by simp) ?_
            refine AllReadyIn.cons rfl (fun K hK => ?_) AllReadyIn.nil
            go_simp
            refine hK _ _ ?_
            clear hK K
            refine wpAnyIn_ready (rs := [4]) (by kernel_rfl) (by simp) ?_
            refine AllReadyIn.cons rfl (fun K hK => ?_) AllReadyIn.nil
            go_simp
            refine ⟨trivial, ?_⟩
            refine (CallsIn.inRound l (callsIn_wide.2 (ob_t ws false _ q HQ.out))).mono ?_
            rintro e1 W1 ⟨rfl, rfl⟩
            refine hK _ _ ?_
            clear hK K
            refine wpAnyIn_ready (rs := [5]) (by kernel_rfl) (by simp) ?_
            refine AllReadyIn.cons rfl (fun K hK => ?_) AllReadyIn.nil
            go_simp
            refine hK _ _ ?_
            clear hK K
            refine wpAnyIn_ready (rs := [6]) (by kernel_rfl) (by simp) ?_
            refine AllReadyIn.cons rfl (fun K hK => ?_) AllReadyIn.nil
            go_simp
            refine hK _ _ ?_
            clear hK K
            refine wpAnyIn_done (by kernel_rfl) ?_ _
            gi_wp2
            exact ⟨(((keepsOthers_below bD).trans (KeepsOthers.setCell _ _ _)).trans (KeepsOthers.setCell _ _ _)).from _, ((Mid.of_below (bD.mono hle)).setCell (p := ⟨V.heap.size, k, none⟩) (.inl ⟨Nat.le_refl _, by show V.heap.size < V.heap.size + 3;omega⟩) _).setCell (p := ⟨V.heap.size + 1 + 1, 0, none⟩) (.inl ⟨by show V.heap.size ≤ V.heap.size + 1 + 1;omega, by show V.heap.size + 1 + 1 < V.heap.size + 3;omega⟩) _, by show OrI V n (orS (wtA sl mg xs ys) (vals (pre ++ [⟨k, hkn⟩]))) _; rw [vals_snoc, orS_snoc, ← HWK.out, ← HWS.out, ← HQ.out]; exact hId.set hkn _ _⟩
          · go_simp
            refine hK _ _ ?_
            clear hK K
            refine wpAnyIn_ready (rs := [0, 4]) (by kernel_rfl) (by simp) ?_
            refine AllReadyIn.cons rfl (fun K hK => ?_) (AllReadyIn.cons rfl (fun K hK => ?_) AllReadyIn.nil)
            · go_simp
              refine hK _ _ ?_
              clear hK K
              refine wpAnyIn_ready (rs := [4]) (by kernel_rfl) (by simp) ?_
              refine AllReadyIn.cons rfl (fun K hK => ?_) AllReadyIn.nil
              go_simp
              refine ⟨trivial, ?_⟩
              refine (CallsIn.inRound l (callsIn_wide.2 (ob_t ws false _ q HQ.out))).mono ?_
              rintro e1 W1 ⟨rfl, rfl⟩
              refine hK _ _ ?_
              clear hK K
              refine wpAnyIn_ready (rs := [5]) (by kernel_rfl) (by simp) ?_
              refine AllReadyIn.cons rfl (fun K hK => ?_) AllReadyIn.nil
              go_simp
              refine hK _ _ ?_
              clear hK K
              refine wpAnyIn_ready (rs := [6]) (by kernel_rfl) (by simp) ?_
              refine AllReadyIn.cons rfl (fun K hK => ?_) AllReadyIn.nil
              go_simp
              refine hK _ _ ?_
              clear hK K
              refine wpAnyIn_done (by kernel_rfl) ?_ _
              gi_wp2
              exact ⟨(((keepsOthers_below bD).trans (KeepsOthers.setCell _ _ _)).trans (KeepsOthers.setCell _ _ _)).from _, ((Mid.of_below (bD.mono hle)).setCell (p := ⟨V.heap.size, k, none⟩) (.inl ⟨Nat.le_refl _, by show V.heap.size < V.heap.size + 3;omega⟩) _).setCell (p := ⟨V.heap.size + 1 + 1, 0, none⟩) (.inl ⟨by show V.heap.size ≤ V.heap.size + 1 + 1;omega, by show V.heap.size + 1 + 1 < V.heap.size + 3;omega⟩) _, by show OrI V n (orS (wtA sl mg xs ys) (vals (pre ++ [⟨k, hkn⟩]))) _; rw [vals_snoc, orS_snoc, ← HWK.out, ← HWS.out, ← HQ.out]; exact hId.set hkn _ _⟩
            · go_simp
              refine ⟨trivial, ?_⟩
              refine (CallsIn.inRound l (callsIn_wide.2 (ob_t ws false _ q HQ.out))).mono ?_
              rintro e1 W1 ⟨rfl, rfl⟩
              refine hK _ _ ?_
              clear hK K
              refine wpAnyIn_ready (rs := [0]) (by kernel_rfl) (by simp) ?_
              refine AllReadyIn.cons rfl (fun K hK => ?_) AllReadyIn.nil
              go_simp
              refine hK _ _ ?_
              clear hK K
              refine wpAnyIn_ready (rs := [5]) (by kernel_rfl) (by simp) ?_
              refine AllReadyIn.cons rfl (fun K hK => ?_) AllReadyIn.nil
              go_simp
              refine hK _ _ ?_
              clear hK K
              refine wpAnyIn_ready (rs := [6]) (by kernel_rfl) (by simp) ?_
              refine AllReadyIn.cons rfl (fun K hK => ?_) AllReadyIn.nil
              go_simp
              refine hK _ _ ?_
              clear hK K
              refine wpAnyIn_done (by kernel_rfl) ?_ _
              gi_wp2
              exact ⟨(((keepsOthers_below bD).trans (KeepsOthers.setCell _ _ _)).trans (KeepsOthers.setCell _ _ _)).from _, ((Mid.of_below (bD.mono hle)).setCell (p := ⟨V.heap.size, k, none⟩) (.inl ⟨Nat.le_refl _, by show V.heap.size < V.heap.size + 3;omega⟩) _).setCell (p := ⟨V.heap.size + 1 + 1, 0, none⟩) (.inl ⟨by show V.heap.size ≤ V.heap.size + 1 + 1;omega, by show V.heap.size + 1 + 1 < V.heap.size + 3;omega⟩) _, by show OrI V n (orS (wtA sl mg xs ys) (vals (pre ++ [⟨k, hkn⟩]))) _; rw [vals_snoc, orS_snoc, ← HWK.out, ← HWS.out, ← HQ.out]; exact hId.set hkn _ _⟩
        · go_simp
          refine hK _ _ ?_
          clear hK K
          refine wpAnyIn_ready (rs := [0, 1, 4]) (by kernel_rfl) (by simp) ?_
          refine AllReadyIn.cons rfl (fun K hK => ?_) (AllReadyIn.cons rfl (fun K hK => ?_) (AllReadyIn.cons rfl (fun K hK => ?_) AllReadyIn.nil))
          · go_simp
            refine hK _ _ ?_
            clear hK K
            refine wpAnyIn_ready (rs := [1, 4]) (by kernel_rfl) (by simp) ?_
            refine AllReadyIn.cons rfl (fun K hK => ?_) (AllReadyIn.cons rfl (fun K hK => ?_) AllReadyIn.nil)
            · go_simp
              refine hK _ _ ?_
              clear hK K
              refine wpAnyIn_ready (rs := [4]) (by kernel_rfl) (by simp) ?_
              refine AllReadyIn.cons rfl (fun K hK => ?_) AllReadyIn.nil
              go_simp
              refine ⟨trivial, ?_⟩
              refine (CallsIn.inRound l (callsIn_wide.2 (ob_t ws false _ q HQ.out))).mono ?_
              rintro e1 W1 ⟨rfl, rfl⟩
              refine hK _ _ ?_
              clear hK K
              refine wpAnyIn_ready (rs := [5]) (by kernel_rfl) (by simp) ?_
              refine AllReadyIn.cons rfl (fun K hK => ?_) AllReadyIn.nil
              go_simp
              refine hK _ _ ?_
              clear hK K
              refine wpAnyIn_ready (rs := [6]) (by kernel_rfl) (by simp) ?_
              refine AllReadyIn.cons rfl (fun K hK => ?_) AllReadyIn.nil
              go_simp
              refine hK _ _ ?_
              clear hK K
              refine wpAnyIn_done (by kernel_rfl) ?_ _
              gi_wp2
              exact ⟨(((keepsOthers_below bD).trans (KeepsOthers.setCell _ _ _)).trans (KeepsOthers.setCell _ _ _)).from _, ((Mid.of_below (bD.mono hle)).setCell (p := ⟨V.heap.size, k, none⟩) (.inl ⟨Nat.le_refl _, by show V.heap.size < V.heap.size + 3;omega⟩) _).setCell (p := ⟨V.heap.size + 1 + 1, 0, none⟩) (.inl ⟨by show V.heap.size ≤ V.heap.size + 1 + 1;omega, by show V.heap.size + 1 + 1 < V.heap.size + 3;omega⟩) _, by show OrI V n (orS (wtA sl mg xs ys) (vals (pre ++ [⟨k, hkn⟩]))) _; rw [vals_snoc, orS_snoc, ← HWK.out, ← HWS.out, ← HQ.out]; exact hId.set hkn _ _⟩
            · go_simp
              refine ⟨trivial, ?_⟩
              refine (CallsIn.inRound l (callsIn_wide.2 (ob_t ws false _ q HQ.out))).mono ?_
              rintro e1 W1 ⟨rfl, rfl⟩
              refine hK _ _ ?_
              clear hK K
              refine wpAnyIn_ready (rs := [1]) (by kernel_rfl) (by simp) ?_
              refine AllReadyIn.cons rfl (fun K hK => ?_) AllReadyIn.nil
              go_simp
              refine hK _ _ ?_
              clear hK K
              refine wpAnyIn_ready (rs := [5]) (by kernel_rfl) (by simp) ?_
              refine AllReadyIn.cons rfl (fun K hK => ?_) AllReadyIn.nil
              go_simp
              refine hK _ _ ?_
              clear hK K
              refine wpAnyIn_ready (rs := [6]) (by kernel_rfl) (by simp) ?_
              refine AllReadyIn.cons rfl (fun K hK => ?_) AllReadyIn.nil
              go_simp
              refine hK _ _ ?_
              clear hK K
              refine wpAnyIn_done (by kernel_rfl) ?_ _
              gi_wp2
              exact ⟨(((keepsOthers_below bD).trans (KeepsOthers.setCell _ _ _)).trans (KeepsOthers.setCell _ _ _)).from _, ((Mid.of_below (bD.mono hle)).setCell (p := ⟨V.heap.size, k, none⟩) (.inl ⟨Nat.le_refl _, by show V.heap.size < V.heap.size + 3;omega⟩) _).setCell (p := ⟨V.heap.size + 1 + 1, 0, none⟩) (.inl ⟨by show V.heap.size ≤ V.heap.size + 1 + 1;omega, by show V.heap.size + 1 + 1 < V.heap.size + 3;omega⟩) _, by show OrI V n (orS (wtA sl mg xs ys) (vals (pre ++ [⟨k, hkn⟩]))) _; rw [vals_snoc, orS_snoc, ← HWK.out, ← HWS.out, ← HQ.out]; exact hId.set hkn _ _⟩
          · go_simp
            refine hK _ _ ?_
            clear hK K
            refine wpAnyIn_ready (rs := [0, 4]) (by kernel_rfl) (by simp) ?_
            refine AllReadyIn.cons rfl (fun K hK => ?_) (AllReadyIn.cons rfl (fun K hK => ?_) AllReadyIn.nil)
            · go_simp
              refine hK _ _ ?_
              clear hK K
              refine wpAnyIn_ready (rs := [4]) (by kernel_rfl) (by simp) ?_
              refine AllReadyIn.cons rfl (fun K hK => ?_) AllReadyIn.nil
              go_simp
              refine ⟨trivial, ?_⟩
              refine (CallsIn.inRound l (callsIn_wide.2 (ob_t ws false _ q HQ.out))).mono ?_
              rintro e1 W1 ⟨rfl, rfl⟩
              refine hK _ _ ?_
              clear hK K
              refine wpAnyIn_ready (rs := [5]) (by kernel_rfl) (by simp) ?_
              refine AllReadyIn.cons rfl (fun K hK => ?_) AllReadyIn.nil
              go_simp
              refine hK _ _ ?_
              clear hK K
              refine wpAnyIn_ready (rs := [6]) (by kernel_rfl) (by simp) ?_
              refine AllReadyIn.cons rfl (fun K hK => ?_) AllReadyIn.nil
              go_simp
              refine hK _ _ ?_
              clear hK K
              refine wpAnyIn_done (by kernel_rfl) ?_ _
              gi_wp2
              exact ⟨(((keepsOthers_below bD).trans (KeepsOthers.setCell _ _ _)).trans (KeepsOthers.setCell _ _ _)).from _, ((Mid.of_below (bD.mono hle)).setCell (p := ⟨V.heap.size, k, none⟩) (.inl ⟨Nat.le_refl _, by show V.heap.size < V.heap.size + 3;omega⟩) _).setCell (p := ⟨V.heap.size + 1 + 1, 0, none⟩) (.inl ⟨by show V.heap.size ≤ V.heap.size + 1 + 1;omega, by show V.heap.size + 1 + 1 < V.heap.size + 3;omega⟩) _, by show OrI V n (orS (wtA sl mg xs ys) (vals (pre ++ [⟨k, hkn⟩]))) _; rw [vals_snoc, orS_snoc, ← HWK.out, ← HWS.out, ← HQ.out]; exact hId.set hkn _ _⟩
            · go_simp
              refine ⟨trivial, ?_⟩
              refine (CallsIn.inRound l (callsIn_wide.2 (ob_t ws false _ q HQ.out))).mono ?_
              rintro e1 W1 ⟨rfl, rfl⟩
              refine hK _ _ ?_
              clear hK K
              refine wpAnyIn_ready (rs := [0]) (by kernel_rfl) (by simp) ?_
              refine AllReadyIn.cons rfl (fun K hK => ?_) AllReadyIn.nil
              go_simp
              refine hK _ _ ?_
              clear hK K
              refine wpAnyIn_ready (rs := [5]) (by kernel_rfl) (by simp) ?_
              refine AllReadyIn.cons rfl (fun K hK => ?_) AllReadyIn.nil
              go_simp
              refine hK _ _ ?_
              clear hK K
              refine wpAnyIn_ready (rs := [6]) (by kernel_rfl) (by simp) ?_
              refine AllReadyIn.cons rfl (fun K hK => ?_) AllReadyIn.nil
              go_simp
              refine hK _ _ ?_
              clear hK K
              refine wpAnyIn_done (by kernel_rfl) ?_ _
              gi_wp2
              exact ⟨(((keepsOthers_below bD).trans (KeepsOthers.setCell _ _ _)).trans (KeepsOthers.setCell _ _ _)).from _, ((Mid.of_below (bD.mono hle)).setCell (p := ⟨V.heap.size, k, none⟩) (.inl ⟨Nat.le_refl _, by show V.heap.size < V.heap.size + 3;omega⟩) _).setCell (p := ⟨V.heap.size + 1 + 1, 0, none⟩) (.inl ⟨by show V.heap.size ≤ V.heap.size + 1 + 1;omega, by show V.heap.size + 1 + 1 < V.heap.size + 3;omega⟩) _, by show OrI V n (orS (wtA sl mg xs ys) (vals (pre ++ [⟨k, hkn⟩]))) _; rw [vals_snoc, orS_snoc, ← HWK.out, ← HWS.out, ← HQ.out]; exact hId.set hkn _ _⟩
          · go_simp
            refine ⟨trivial, ?_⟩
            refine (CallsIn.inRound l (callsIn_wide.2 (ob_t ws false _ q HQ.out))).mono ?_
            rintro e1 W1 ⟨rfl, rfl⟩
            refine hK _ _ ?_
            clear hK K
            refine wpAnyIn_ready (rs := [0, 1]) (by kernel_rfl) (by simp) ?_
            refine AllReadyIn.cons rfl (fun K hK => ?_) (AllReadyIn.cons rfl (fun K hK => ?_) AllReadyIn.nil)
            · go_simp
              refine hK _ _ ?_
              clear hK K
              refine wpAnyIn_ready (rs := [1]) (by kernel_rfl) (by simp) ?_
              refine AllReadyIn.cons rfl (fun K hK => ?_) AllReadyIn.nil
              go_simp
              refine hK _ _ ?_
              clear hK K
              refine wpAnyIn_ready (rs := [5]) (by kernel_rfl) (by simp) ?_
              refine AllReadyIn.cons rfl (fun K hK => ?_) AllReadyIn.nil
              go_simp
              refine hK _ _ ?_
              clear hK K
              refine wpAnyIn_ready (rs := [6]) (by kernel_rfl) (by simp) ?_
              refine AllReadyIn.cons rfl (fun K hK => ?_) AllReadyIn.nil
              go_simp
              refine hK _ _ ?_
              clear hK K
              refine wpAnyIn_done (by kernel_rfl) ?_ _
              gi_wp2
              exact ⟨(((keepsOthers_below bD).trans (KeepsOthers.setCell _ _ _)).trans (KeepsOthers.setCell _ _ _)).from _, ((Mid.of_below (bD.mono hle)).setCell (p := ⟨V.heap.size, k, none⟩) (.inl ⟨Nat.le_refl _, by show V.heap.size < V.heap.size + 3;omega⟩) _).setCell (p := ⟨V.heap.size + 1 + 1, 0, none⟩) (.inl ⟨by show V.heap.size ≤ V.heap.size + 1 + 1;omega, by show V.heap.size + 1 + 1 < V.heap.size + 3;omega⟩) _, by show OrI V n (orS (wtA sl mg xs ys) (vals (pre ++ [⟨k, hkn⟩]))) _; rw [vals_snoc, orS_snoc, ← HWK.out, ← HWS.out, ← HQ.out]; exact hId.set hkn _ _⟩
            · go_simp
              refine hK _ _ ?_
              clear hK K
              refine wpAnyIn_ready (rs := [0]) (by kernel_rfl) (by simp) ?_
              refine AllReadyIn.cons rfl (fun K hK => ?_) AllReadyIn.nil
              go_simp
              refine hK _ _ ?_
              clear hK K
              refine wpAnyIn_ready (rs := [5]) (by kernel_rfl) (by simp) ?_
              refine AllReadyIn.cons rfl (fun K hK => ?_) AllReadyIn.nil
              go_simp
              refine hK _ _ ?_
              clear hK K
              refine wpAnyIn_ready (rs := [6]) (by kernel_rfl) (by simp) ?_
              refine AllReadyIn.cons rfl (fun K hK => ?_) AllReadyIn.nil
              go_simp
              refine hK _ _ ?_
              clear hK K
              refine wpAnyIn_done (by kernel_rfl) ?_ _
              gi_wp2
              exact ⟨(((keepsOthers_below bD).trans (KeepsOthers.setCell _ _ _)).trans (KeepsOthers.setCell _ _ _)).from _, ((Mid.of_below (bD.mono hle)).setCell (p := ⟨V.heap.size, k, none⟩) (.inl ⟨Nat.le_refl _, by show V.heap.size < V.heap.size + 3;omega⟩) _).setCell (p := ⟨V.heap.size + 1 + 1, 0, none⟩) (.inl ⟨by show V.heap.size ≤ V.heap.size + 1 + 1;omega, by show V.heap.size + 1 + 1 < V.heap.size + 3;omega⟩) _, by show OrI V n (orS (wtA sl mg xs ys) (vals (pre ++ [⟨k, hkn⟩]))) _; rw [vals_snoc, orS_snoc, ← HWK.out, ← HWS.out, ← HQ.out]; exact hId.set hkn _ _⟩
      · go_simp
        refine hK _ _ ?_
        clear hK K
        refine wpAnyIn_ready (rs := [0, 1, 2]) (by kernel_rfl) (by simp) ?_
        refine AllReadyIn.cons rfl (fun K hK => ?_) (AllReadyIn.cons rfl (fun K hK => ?_) (AllReadyIn.cons rfl (fun K hK => ?_) AllReadyIn.nil))
        · go_simp
          refine hK _ _ ?_
          clear hK K
          refine wpAnyIn_ready (rs := [1, 2]) (by kernel_rfl) (by simp) ?_
          refine AllReadyIn.cons rfl (fun K hK => ?_) (AllReadyIn.cons rfl (fun K hK => ?_) AllReadyIn.nil)
          · go_simp
            refine hK _ _ ?_
            clear hK K
            refine wpAnyIn_ready (rs := [2]) (by kernel_rfl) (by simp) ?_
            refine AllReadyIn.cons rfl (fun K hK => ?_) AllReadyIn.nil
            go_simp
            refine hK _ _ ?_
            clear hK K
            refine wpAnyIn_ready (rs := [4]) (by kernel_rfl) (by simp) ?_
            refine AllReadyIn.cons rfl (fun K hK => ?_) AllReadyIn.nil
            go_simp
            refine ⟨trivial, ?_⟩
            refine (CallsIn.inRound l (callsIn_wide.2 (ob_t ws false _ q HQ.out))).mono ?_
            rintro e1 W1 ⟨rfl, rfl⟩
            refine hK _ _ ?_
            clear hK K
            refine wpAnyIn_ready (rs := [5]) (by kernel_rfl) (by simp) ?_
            refine AllReadyIn.cons rfl (fun K hK => ?_) AllReadyIn.nil
            go_simp
            refine hK _ _ ?_
            clear hK K
            refine wpAnyIn_ready (rs := [6]) (by kernel_rfl) (by simp) ?_
            refine AllReadyIn.cons rfl (fun K hK => ?_) AllReadyIn.nil
            go_simp
            refine hK _ _ ?_
            clear hK K
            refine wpAnyIn_done (by kernel_rfl) ?_ _
            gi_wp2
            exact ⟨(((keepsOthers_below bD).trans (KeepsOthers.setCell _ _ _)).trans (KeepsOthers.setCell _ _ _)).from _, ((Mid.of_below (bD.mono hle)).setCell (p := ⟨V.heap.size, k, none⟩) (.inl ⟨Nat.le_refl _, by show V.heap.size < V.heap.size + 3;omega⟩) _).setCell (p := ⟨V.heap.size + 1 + 1, 0, none⟩) (.inl ⟨by show V.heap.size ≤ V.heap.size + 1 + 1;omega, by show V.heap.size + 1 + 1 < V.heap.size + 3;omega⟩) _, by show OrI V n (orS (wtA sl mg xs ys) (vals (pre ++ [⟨k, hkn⟩]))) _; rw [vals_snoc, orS_snoc, ← HWK.out, ← HWS.out, ← HQ.out]; exact hId.set hkn _ _⟩
          · go_simp
            refine hK _ _ ?_
            clear hK K
            refine wpAnyIn_ready (rs := [1, 4]) (by kernel_rfl) (by simp) ?_
            refine AllReadyIn.cons rfl (fun K hK => ?_) (AllReadyIn.cons rfl (fun K hK => ?_) AllReadyIn.nil)
            · go_simp
              refine hK _ _ ?_
              clear hK K
              refine wpAnyIn_ready (rs := [4]) (by kernel_rfl) (by simp) ?_
              refine AllReadyIn.cons rfl (fun K hK => ?_) AllReadyIn.nil
              go_simp
              refine ⟨trivial, ?_⟩
              refine (CallsIn.inRound l (callsIn_wide.2 (ob_t ws false _ q HQ.out))).mono ?_
              rintro e1 W1 ⟨rfl, rfl⟩
              refine hK _ _ ?_
              clear hK K
              refine wpAnyIn_ready (rs := [5]) (by kernel_rfl) (by simp) ?_
              refine AllReadyIn.cons rfl (fun K hK => ?_) AllReadyIn.nil
              go_simp
              refine hK _ _ ?_
              clear hK K
              refine wpAnyIn_ready (rs := [6]) (by kernel_rfl) (by simp) ?_
              refine AllReadyIn.cons rfl (fun K hK => ?_) AllReadyIn.nil
              go_simp
              refine hK _ _ ?_
              clear hK K
              refine wpAnyIn_done (by kernel_rfl) ?_ _
              gi_wp2
              exact ⟨(((keepsOthers_below bD).trans (KeepsOthers.setCell _ _ _)).trans (KeepsOthers.setCell _ _ _)).from _, ((Mid.of_below (bD.mono hle)).setCell (p := ⟨V.heap.size, k, none⟩) (.inl ⟨Nat.le_refl _, by show V.heap.size < V.heap.size + 3;omega⟩) _).setCell (p := ⟨V.heap.size + 1 + 1, 0, none⟩) (.inl ⟨by show V.heap.size ≤ V.heap.size + 1 + 1;omega, by show V.heap.size + 1 + 1 < V.heap.size + 3;omega⟩) _, by show OrI V n (orS (wtA sl mg xs ys) (vals (pre ++ [⟨k, hkn⟩]))) _; rw [vals_snoc, orS_snoc, ← HWK.out, ← HWS.out, ← HQ.out]; exact hId.set hkn _ _⟩
            · go_simp
              refine ⟨trivial, ?_⟩
              refine (CallsIn.inRound l (callsIn_wide.2 (ob_t ws false _ q HQ.out))).mono ?_
              rintro e1 W1 ⟨rfl, rfl⟩
              refine hK _ _ ?_
              clear hK K
              refine wpAnyIn_ready (rs := [1]) (by kernel_rfl) (by simp) ?_
              refine AllReadyIn.cons rfl (fun K hK => ?_) AllReadyIn.nil
              go_simp
              refine hK _ _ ?_
              clear hK K
              refine wpAnyIn_ready (rs := [5]) (by kernel_rfl) (by simp) ?_
              refine AllReadyIn.cons rfl (fun K hK => ?_) AllReadyIn.nil
              go_simp
              refine hK _ _ ?_
              clear hK K
              refine wpAnyIn_ready (rs := [6]) (by kernel_rfl) (by simp) ?_
              refine AllReadyIn.cons rfl (fun K hK => ?_) AllReadyIn.nil
              go_simp
              refine hK _ _ ?_
              clear hK K
              refine wpAnyIn_done (by kernel_rfl) ?_ _
              gi_wp2
              exact ⟨(((keepsOthers_below bD).trans (KeepsOthers.setCell _ _ _)).trans (KeepsOthers.setCell _ _ _)).from _, ((Mid.of_below (bD.mono hle)).setCell (p := ⟨V.heap.size, k, none⟩) (.inl ⟨Nat.le_refl _, by show V.heap.size < V.heap.size + 3;omega⟩) _).setCell (p := ⟨V.heap.size + 1 + 1, 0, none⟩) (.inl ⟨by show V.heap.size ≤ V.heap.size + 1 + 1;omega, by show V.heap.size + 1 + 1 < V.heap.size + 3;omega⟩) _, by show OrI V n (orS (wtA sl mg xs ys) (vals (pre ++ [⟨k, hkn⟩]))) _; rw [vals_snoc, orS_snoc, ← HWK.out, ← HWS.out, ← HQ.out]; exact hId.set hkn _ _⟩
        · go_simp
          refine hK _ _ ?_
          clear hK K
          refine wpAnyIn_ready (rs := [0, 2]) (by kernel_rfl) (by simp) ?_
          refine AllReadyIn.cons rfl (fun K hK => ?_) (AllReadyIn.cons rfl (fun K hK => ?_) AllReadyIn.nil)
          · go_simp
            refine hK _ _ ?_
            clear hK K
            refine wpAnyIn_ready (rs := [2]) (by kernel_rfl) (by simp) ?_
            refine AllReadyIn.cons rfl (fun K hK => ?_) AllReadyIn.nil
            go_simp
            refine hK _ _ ?_
            clear hK K
            refine wpAnyIn_ready (rs := [4]) (by kernel_rfl) (by simp) ?_
            refine AllReadyIn.cons rfl (fun K hK => ?_) AllReadyIn.nil
            go_simp
            refine ⟨trivial, ?_⟩
            refine (CallsIn.inRound l (callsIn_wide.2 (ob_t ws false _ q HQ.out))).mono ?_
            rintro e1 W1 ⟨rfl, rfl⟩
            refine hK _ _ ?_
            clear hK K
            refine wpAnyIn_ready (rs := [5]) (by kernel_rfl) (by simp) ?_
            refine AllReadyIn.cons rfl (fun K hK => ?_) AllReadyIn.nil
            go_simp
            refine hK _ _ ?_
            clear hK K
            refine wpAnyIn_ready (rs := [6]) (by kernel_rfl) (by simp) ?_
            refine AllReadyIn.cons rfl (fun K hK => ?_) AllReadyIn.nil
            go_simp
            refine hK _ _ ?_
            clear hK K
            refine wpAnyIn_done (by kernel_rfl) ?_ _
            gi_wp2
            exact ⟨(((keepsOthers_below bD).trans (KeepsOthers.setCell _ _ _)).trans (KeepsOthers.setCell _ _ _)).from _, ((Mid.of_below (bD.mono hle)).setCell (p := ⟨V.heap.size, k, none⟩) (.inl ⟨Nat.le_refl _, by show V.heap.size < V.heap.size + 3;omega⟩) _).setCell (p := ⟨V.heap.size + 1 + 1, 0, none⟩) (.inl ⟨by show V.heap.size ≤ V.heap.size + 1 + 1;omega, by show V.heap.size + 1 + 1 < V.heap.size + 3;omega⟩) _, by show OrI V n (orS (wtA sl mg xs ys) (vals (pre ++ [⟨k, hkn⟩]))) _; rw [vals_snoc, orS_snoc, ← HWK.out, ← HWS.out, ← HQ.out]; exact hId.set hkn _ _⟩
          · go_simp
            refine hK _ _ ?_
            clear hK K
            refine wpAnyIn_ready (rs := [0, 4]) (by kernel_rfl) (by simp) ?_
            refine AllReadyIn.cons rfl (fun K hK => ?_) (AllReadyIn.cons rfl (fun K hK => ?_) AllReadyIn.nil)
            · go_simp
              refine hK _ _ ?_
              clear hK K
              refine wpAnyIn_ready (rs := [4]) (by kernel_rfl) (by simp) ?_
              refine AllReadyIn.cons rfl (fun K hK => ?_) AllReadyIn.nil
              go_simp
              refine ⟨trivial, ?_⟩
              refine (CallsIn.inRound l (callsIn_wide.2 (ob_t ws false _ q HQ.out))).mono ?_
              rintro e1 W1 ⟨rfl, rfl⟩
              refine hK _ _ ?_
              clear hK K
              refine wpAnyIn_ready (rs := [5]) (by kernel_rfl) (by simp) ?_
              refine AllReadyIn.cons rfl (fun K hK => ?_) AllReadyIn.nil
              go_simp
              refine hK _ _ ?_
              clear hK K
              refine wpAnyIn_ready (rs := [6]) (by kernel_rfl) (by simp) ?_
              refine AllReadyIn.cons rfl (fun K hK => ?_) AllReadyIn.nil
              go_simp
              refine hK _ _ ?_
              clear hK K
              refine wpAnyIn_done (by kernel_rfl) ?_ _
              gi_wp2
              exact ⟨(((keepsOthers_below bD).trans (KeepsOthers.setCell _ _ _)).trans (KeepsOthers.setCell _ _ _)).from _, ((Mid.of_below (bD.mono hle)).setCell (p := ⟨V.heap.size, k, none⟩) (.inl ⟨Nat.le_refl _, by show V.heap.size < V.heap.size + 3;omega⟩) _).setCell (p := ⟨V.heap.size + 1 + 1, 0, none⟩) (.inl ⟨by show V.heap.size ≤ V.heap.size + 1 + 1;omega, by show V.heap.size + 1 + 1 < V.heap.size + 3;omega⟩) _, by show OrI V n (orS (wtA sl mg xs ys) (vals (pre ++ [⟨k, hkn⟩]))) _; rw [vals_snoc, orS_snoc, ← HWK.out, ← HWS.out, ← HQ.out]; exact hId.set hkn _ _⟩
            · go_simp
              refine ⟨trivial, ?_⟩
              refine (CallsIn.inRound l (callsIn_wide.2 (ob_t ws false _ q HQ.out))).mono ?_
              rintro e1 W1 ⟨rfl, rfl⟩
              refine hK _ _ ?_
              clear hK K
              refine wpAnyIn_ready (rs := [0]) (by kernel_rfl) (by simp) ?_
              refine AllReadyIn.cons rfl (fun K hK => ?_) AllReadyIn.nil
              go_simp
              refine hK _ _ ?_
              clear hK K
              refine wpAnyIn_ready (rs := [5]) (by kernel_rfl) (by simp) ?_
              refine AllReadyIn.cons rfl (fun K hK => ?_) AllReadyIn.nil
              go_simp
              refine hK _ _ ?_
              clear hK K
              refine wpAnyIn_ready (rs := [6]) (by kernel_rfl) (by simp) ?_
              refine AllReadyIn.cons rfl (fun K hK => ?_) AllReadyIn.nil
              go_simp
              refine hK _ _ ?_
              clear hK K
              refine wpAnyIn_done (by kernel_rfl) ?_ _
              gi_wp2
              exact ⟨(((keepsOthers_below bD).trans (KeepsOthers.setCell _ _ _)).trans (KeepsOthers.setCell _ _ _)).from _, ((Mid.of_below (bD.mono hle)).setCell (p := ⟨V.heap.size, k, none⟩) (.inl ⟨Nat.le_refl _, by show V.heap.size < V.heap.size + 3;omega⟩) _).setCell (p := ⟨V.heap.size + 1 + 1, 0, none⟩) (.inl ⟨by show V.heap.size ≤ V.heap.size + 1 + 1;omega, by show V.heap.size + 1 + 1 < V.heap.size + 3;omega⟩) _, by show OrI V n (orS (wtA sl mg xs ys) (vals (pre ++ [⟨k, hkn⟩]))) _; rw [vals_snoc, orS_snoc, ← HWK.out, ← HWS.out, ← HQ.out]; exact hId.set hkn _ _⟩
        · go_simp
          refine hK _ _ ?_
          clear hK K
          refine wpAnyIn_ready (rs := [0, 1, 4]) (by kernel_rfl) (by simp) ?_
          refine AllReadyIn.cons rfl (fun K hK => ?_) (AllReadyIn.cons rfl (fun K hK => ?_) (AllReadyIn.cons rfl (fun K hK => ?_) AllReadyIn.nil))
          · go_simp
            refine hK _ _ ?_
            clear hK K
            refine wpAnyIn_ready (rs := [1, 4]) (by kernel_rfl) (by simp) ?_
            refine AllReadyIn.cons rfl (fun K hK => ?_) (AllReadyIn.cons rfl (fun K hK => ?_) AllReadyIn.nil)
            · go_simp
              refine hK _ _ ?_
              clear hK K
              refine wpAnyIn_ready (rs := [4]) (by kernel_rfl) (by simp) ?_
              refine AllReadyIn.cons rfl (fun K hK => ?_) AllReadyIn.nil
              go_simp
              refine ⟨trivial, ?_⟩
              refine (CallsIn.inRound l (callsIn_wide.2 (ob_t ws false _ q HQ.out))).mono ?_
              rintro e1 W1 ⟨rfl, rfl⟩
              refine hK _ _ ?_
              clear hK K
              refine wpAnyIn_ready (rs := [5]) (by kernel_rfl) (by simp) ?_
              refine AllReadyIn.cons rfl (fun K hK => ?_) AllReadyIn.nil
              go_simp
              refine hK _ _ ?_
              clear hK K
              refine wpAnyIn_ready (rs := [6]) (by kernel_rfl) (by simp) ?_
              refine AllReadyIn.cons rfl (fun K hK => ?_) AllReadyIn.nil
              go_simp
              refine hK _ _ ?_
              clear hK K
              refine wpAnyIn_done (by kernel_rfl) ?_ _
              gi_wp2
              exact ⟨(((keepsOthers_below bD).trans (KeepsOthers.setCell _ _ _)).trans (KeepsOthers.setCell _ _ _)).from _, ((Mid.of_below (bD.mono hle)).setCell (p := ⟨V.heap.size, k, none⟩) (.inl ⟨Nat.le_refl _, by show V.heap.size < V.heap.size + 3;omega⟩) _).setCell (p := ⟨V.heap.size + 1 + 1, 0, none⟩) (.inl ⟨by show V.heap.size ≤ V.heap.size + 1 + 1;omega, by show V.heap.size + 1 + 1 < V.heap.size + 3;omega⟩) _, by show OrI V n (orS (wtA sl mg xs ys) (vals (pre ++ [⟨k, hkn⟩]))) _; rw [vals_snoc, orS_snoc, ← HWK.out, ← HWS.out, ← HQ.out]; exact hId.set hkn _ _⟩
            · go_simp
              refine ⟨trivial, ?_⟩
              refine (CallsIn.inRound l (callsIn_wide.2 (ob_t ws false _ q HQ.out))).mono ?_
              rintro e1 W1 ⟨rfl, rfl⟩
              refine hK _ _ ?_
              clear hK K
              refine wpAnyIn_ready (rs := [1]) (by kernel_rfl) (by simp) ?_
              refine AllReadyIn.cons rfl (fun K hK => ?_) AllReadyIn.nil
              go_simp
              refine hK _ _ ?_
              clear hK K
              refine wpAnyIn_ready (rs := [5]) (by kernel_rfl) (by simp) ?_
              refine AllReadyIn.cons rfl (fun K hK => ?_) AllReadyIn.nil
              go_simp
              refine hK _ _ ?_
              clear hK K
              refine wpAnyIn_ready (rs := [6]) (by kernel_rfl) (by simp) ?_
              refine AllReadyIn.cons rfl (fun K hK => ?_) AllReadyIn.nil
              go_simp
              refine hK _ _ ?_
              clear hK K
              refine wpAnyIn_done (by kernel_rfl) ?_ _
              gi_wp2
              exact ⟨(((keepsOthers_below bD).trans (KeepsOthers.setCell _ _ _)).trans (KeepsOthers.setCell _ _ _)).from _, ((Mid.of_below (bD.mono hle)).setCell (p := ⟨V.heap.size, k, none⟩) (.inl ⟨Nat.le_refl _, by show V.heap.size < V.heap.size + 3;omega⟩) _).setCell (p := ⟨V.heap.size + 1 + 1, 0, none⟩) (.inl ⟨by show V.heap.size ≤ V.heap.size + 1 + 1;omega, by show V.heap.size + 1 + 1 < V.heap.size + 3;omega⟩) _, by show OrI V n (orS (wtA sl mg xs ys) (vals (pre ++ [⟨k, hkn⟩]))) _; rw [vals_snoc, orS_snoc, ← HWK.out, ← HWS.out, ← HQ.out]; exact hId.set hkn _ _⟩
          · go_simp
            refine hK _ _ ?_
            clear hK K
            refine wpAnyIn_ready (rs := [0, 4]) (by kernel_rfl) (by simp) ?_
            refine AllReadyIn.cons rfl (fun K hK => ?_) (AllReadyIn.cons rfl (fun K hK => ?_) AllReadyIn.nil)
            · go_simp
              refine hK _ _ ?_
              clear hK K
              refine wpAnyIn_ready (rs := [4]) (by kernel_rfl) (by simp) ?_
              refine AllReadyIn.cons rfl (fun K hK => ?_) AllReadyIn.nil
              go_simp
              refine ⟨trivial, ?_⟩
              refine (CallsIn.inRound l (callsIn_wide.2 (ob_t ws false _ q HQ.out))).mono ?_
              rintro e1 W1 ⟨rfl, rfl⟩
              refine hK _ _ ?_
              clear hK K
              refine wpAnyIn_ready (rs := [5]) (by kernel_rfl) (by simp) ?_
              refine AllReadyIn.cons rfl (fun K hK => ?_) AllReadyIn.nil
              go_simp
              refine hK _ _ ?_
              clear hK K
              refine wpAnyIn_ready (rs := [6]) (by kernel_rfl) (by simp) ?_
              refine AllReadyIn.cons rfl (fun K hK => ?_) AllReadyIn.nil
              go_simp
              refine hK _ _ ?_
              clear hK K
              refine wpAnyIn_done (by kernel_rfl) ?_ _
              gi_wp2
              exact ⟨(((keepsOthers_below bD).trans (KeepsOthers.setCell _ _ _)).trans (KeepsOthers.setCell _ _ _)).from _, ((Mid.of_below (bD.mono hle)).setCell (p := ⟨V.heap.size, k, none⟩) (.inl ⟨Nat.le_refl _, by show V.heap.size < V.heap.size + 3;omega⟩) _).setCell (p := ⟨V.heap.size + 1 + 1, 0, none⟩) (.inl ⟨by show V.heap.size ≤ V.heap.size + 1 + 1;omega, by show V.heap.size + 1 + 1 < V.heap.size + 3;omega⟩) _, by show OrI V n (orS (wtA sl mg xs ys) (vals (pre ++ [⟨k, hkn⟩]))) _; rw [vals_snoc, orS_snoc, ← HWK.out, ← HWS.out, ← HQ.out]; exact hId.set hkn _ _⟩
            · go_simp
              refine ⟨trivial, ?_⟩
              refine (CallsIn.inRound l (callsIn_wide.2 (ob_t ws false _ q HQ.out))).mono ?_
              rintro e1 W1 ⟨rfl, rfl⟩
              refine hK _ _ ?_
              clear hK K
              refine wpAnyIn_ready (rs := [0]) (by kernel_rfl) (by simp) ?_
              refine AllReadyIn.cons rfl (fun K hK => ?_) AllReadyIn.nil
              go_simp
              refine hK _ _ ?_
              clear hK K
              refine wpAnyIn_ready (rs := [5]) (by kernel_rfl) (by simp) ?_
              refine AllReadyIn.cons rfl (fun K hK => ?_) AllReadyIn.nil
              go_simp
              refine hK _ _ ?_
              clear hK K
              refine wpAnyIn_ready (rs := [6]) (by kernel_rfl) (by simp) ?_
              refine AllReadyIn.cons rfl (fun K hK => ?_) AllReadyIn.nil
              go_simp
              refine hK _ _ ?_
              clear hK K
              refine wpAnyIn_done (by kernel_rfl) ?_ _
              gi_wp2
              exact ⟨(((keepsOthers_below bD).trans (KeepsOthers.setCell _ _ _)).trans (KeepsOthers.setCell _ _ _)).from _, ((Mid.of_below (bD.mono hle)).setCell (p := ⟨V.heap.size, k, none⟩) (.inl ⟨Nat.le_refl _, by show V.heap.size < V.heap.size + 3;omega⟩) _).setCell (p := ⟨V.heap.size + 1 + 1, 0, none⟩) (.inl ⟨by show V.heap.size ≤ V.heap.size + 1 + 1;omega, by show V.heap.size + 1 + 1 < V.heap.size + 3;omega⟩) _, by show OrI V n (orS (wtA sl mg xs ys) (vals (pre ++ [⟨k, hkn⟩]))) _; rw [vals_snoc, orS_snoc, ← HWK.out, ← HWS.out, ← HQ.out]; exact hId.set hkn _ _⟩
          · go_simp
            refine ⟨trivial, ?_⟩
            refine (CallsIn.inRound l (callsIn_wide.2 (ob_t ws false _ q HQ.out))).mono ?_
            rintro e1 W1 ⟨rfl, rfl⟩
            refine hK _ _ ?_
            clear hK K
            refine wpAnyIn_ready (rs := [0, 1]) (by kernel_rfl) (by simp) ?_
            refine AllReadyIn.cons rfl (fun K hK => ?_) (AllReadyIn.cons rfl (fun K hK => ?_) AllReadyIn.nil)
            · go_simp
              refine hK _ _ ?_
              clear hK K
              refine wpAnyIn_ready (rs := [1]) (by kernel_rfl) (by simp) ?_
              refine AllReadyIn.cons rfl (fun K hK => ?_) AllReadyIn.nil
              go_simp
              refine hK _ _ ?_
              clear hK K
              refine wpAnyIn_ready (rs := [5]) (by kernel_rfl) (by simp) ?_
              refine AllReadyIn.cons rfl (fun K hK => ?_) AllReadyIn.nil
              go_simp
              refine hK _ _ ?_
              clear hK K
              refine wpAnyIn_ready (rs := [6]) (by kernel_rfl) (by simp) ?_
              refine AllReadyIn.cons rfl (fun K hK => ?_) AllReadyIn.nil
              go_simp
              refine hK _ _ ?_
              clear hK K
              refine wpAnyIn_done (by kernel_rfl) ?_ _
              gi_wp2
              exact ⟨(((keepsOthers_below bD).trans (KeepsOthers.setCell _ _ _)).trans (KeepsOthers.setCell _ _ _)).from _, ((Mid.of_below (bD.mono hle)).setCell (p := ⟨V.heap.size, k, none⟩) (.inl ⟨Nat.le_refl _, by show V.heap.size < V.heap.size + 3;omega⟩) _).setCell (p := ⟨V.heap.size + 1 + 1, 0, none⟩) (.inl ⟨by show V.heap.size ≤ V.heap.size + 1 + 1;omega, by show V.heap.size + 1 + 1 < V.heap.size + 3;omega⟩) _, by show OrI V n (orS (wtA sl mg xs ys) (vals (pre ++ [⟨k, hkn⟩]))) _; rw [vals_snoc, orS_snoc, ← HWK.out, ← HWS.out, ← HQ.out]; exact hId.set hkn _ _⟩
            · go_simp
              refine hK _ _ ?_
              clear hK K
              refine wpAnyIn_ready (rs := [0]) (by kernel_rfl) (by simp) ?_
              refine AllReadyIn.cons rfl (fun K hK => ?_) AllReadyIn.nil
              go_simp
              refine hK _ _ ?_
              clear hK K
              refine wpAnyIn_ready (rs := [5]) (by kernel_rfl) (by simp) ?_
              refine AllReadyIn.cons rfl (fun K hK => ?_) AllReadyIn.nil
              go_simp
              refine hK _ _ ?_
              clear hK K
              refine wpAnyIn_ready (rs := [6]) (by kernel_rfl) (by simp) ?_
              refine AllReadyIn.cons rfl (fun K hK => ?_) AllReadyIn.nil
              go_simp
              refine hK _ _ ?_
              clear hK K
              refine wpAnyIn_done (by kernel_rfl) ?_ _
              gi_wp2
              exact ⟨(((keepsOthers_below bD).trans (KeepsOthers.setCell _ _ _)).trans (KeepsOthers.setCell _ _ _)).from _, ((Mid.of_below (bD.mono hle)).setCell (p := ⟨V.heap.size, k, none⟩) (.inl ⟨Nat.le_refl _, by show V.heap.size < V.heap.size + 3;omega⟩) _).setCell (p := ⟨V.heap.size + 1 + 1, 0, none⟩) (.inl ⟨by show V.heap.size ≤ V.heap.size + 1 + 1;omega, by show V.heap.size + 1 + 1 < V.heap.size + 3;omega⟩) _, by show OrI V n (orS (wtA sl mg xs ys) (vals (pre ++ [⟨k, hkn⟩]))) _; rw [vals_snoc, orS_snoc, ← HWK.out, ← HWS.out, ← HQ.out]; exact hId.set hkn _ _⟩
  case done =>
    rintro D zs W hD hS hI hK
    have cb := hI.cb
    gi_wp2
    refine ⟨by simp, .inl ⟨_, _, rfl, run_takeDeferred hK, ?_⟩⟩
    have hI2 := hI.own (grownBy_putObj' W D (.deferred none)) (fun r e => by cases e; exact ⟨by omega, _, hK, rfl⟩)
    have hR2 := (orS_range (wtA sl mg xs ys) n).2
    exact ⟨_, results_tmp2 rfl _ _ _, _, _, rfl, d3.trans (hI2.E.mono (by omega)), rowOf_len _ _, fun _ => ⟨_, _, rfl, by omega, by have := hI2.size;omega, fun j hj => ⟨by rw [Nat.zero_add, (hI2.row j hj).1, hS, hR2 j, if_pos hj, rowOf_at _ _ _ hj], by rw [Nat.zero_add]; exact (hI2.row j hj).2⟩⟩⟩
  case stop =>
    rintro D c' pre W _ _ h _
    exact h.elim

set_option maxHeartbeats 1600000 in
theorem implC_OrdersFor (a0_0 : Int) (a0_1 : Int) (a1 : Option Addr) (la1 ca1 : Nat) (xa1 : List Int) (a2 : Option Addr) (la2 ca2 : Nat) (xa2 : List Int) (a3 : Int) (w : World) (ha0_0 : (Lit.int .i64 a0_0).wf = true) (ha0_1 : (Lit.int .i64 a0_1).wf = true) (ha1 : la1 ≤ 1048576) (ra1 : Rd w w.heap.size a1 la1 xa1) (fa1 : Wf xa1) (ha2 : la2 ≤ 1048576) (ra2 : Rd w w.heap.size a2 la2 xa2) (fa2 : Wf xa2) (ha3 : (Lit.int .i64 a3).wf = true) :
    Calls Try.prog 25 #[.agg #[.int .i64 a0_0, .int .i64 a0_1], .slice a1 la1 ca1, .slice a2 la2 ca2, .int .i64 a3] w fun e w' => ∃ B0 dB0, e = .returned (.tuple #[.slice B0 (r0_OrdersFor a0_0 a0_1 xa1 xa2 a3).length dB0, .int .i64 (r1_OrdersFor a0_0 a0_1 xa1 xa2 a3)]) ∧ Below w.heap.size w w' ∧ Wr w' w.heap.size B0 (r0_OrdersFor a0_0 a0_1 xa1 xa2 a3).length (r0_OrdersFor a0_0 a0_1 xa1 xa2 a3) := by
  have hl1 := ra1.1
  have hl2 := ra2.1
  by_cases h : slOk a0_0 a0_1 ∧ ofR xa1 xa2 a3
  · have e0 : r0_OrdersFor a0_0 a0_1 xa1 xa2 a3 = rowOf (orA (wtA a0_1 a3 xa1 xa2)) la1 := by unfold r0_OrdersFor; rw [if_pos h, hl1]
    have e1 : r1_OrdersFor a0_0 a0_1 xa1 xa2 a3 = 0 := sc3_ok h.1 h.2
    rw [e0, e1, rowOf_len]
    have hh := h.2.1
    rw [hl1, hl2] at hh
    obtain rfl : la1 = la2 := hh.1.1
    exact orders_impl a0_0 a0_1 a3 a1 a2 la1 ca1 ca2 xa1 xa2 w h.1 hh h.2.2 ra1 ra2
  · have e0 : r0_OrdersFor a0_0 a0_1 xa1 xa2 a3 = [] := by unfold r0_OrdersFor; rw [if_neg h]
    have e2 := sc3_ne h
    rw [e0]
    have RA := Lib.hid ra1
    have RB := Lib.hid ra2
    clear ra1 ra2
    obtain ⟨v, hv⟩ : ∃ v, v = decide (slOk a0_0 a0_1) := ⟨_, rfl⟩
    obtain ⟨u, hu⟩ : ∃ u, u = decide (hrOk la1 la2 xa1 xa2) := ⟨_, rfl⟩
    obtain ⟨g, hg⟩ : ∃ g, g = decide (mgOk a3) := ⟨_, rfl⟩
    have HV := Lib.hid hv
    have HU := Lib.hid hu
    have HG := Lib.hid (show g = decide (1 ≤ a3 ∧ a3 ≤ 4000) from hg)
    have hk : r1_OrdersFor a0_0 a0_1 xa1 xa2 a3 = if v = true then (if (u && g) = true then 0 else 2) else 1 := by
      have ab : (u && g) = true ↔ ofR xa1 xa2 a3 := by rw [hu, hg, Bool.and_eq_true, decide_eq_true_iff, decide_eq_true_iff]; unfold ofR; rw [hl1, hl2]
      unfold r1_OrdersFor sc3
      rw [hv]
      simp only [ab, decide_eq_true_iff]
    change (r1_OrdersFor a0_0 a0_1 xa1 xa2 a3 == 0) = false at e2
    generalize r1_OrdersFor a0_0 a0_1 xa1 xa2 a3 = C at *
    have HK := Lib.hid hk
    have e4 : (C != 0) = true := by simpa using e2
    clear h e0 hv hu hg hk e2
    cases u
    · go_enter Try.func25, Try.ntmps25
      go_wp2_with (first | (go_at_call 53; refine (areHours_any _ _ _ _ _ _ xa1 xa2 _ ha1 ha2 ((RA.out.below (by repeat (first | assumption | exact Below.refl _ _ | (refine Below.setCell ?_ (by first | omega | (simp; done) | (simp; omega)) _) | apply below_drewN | apply Below.drew | (refine Below.alloc ?_ (by first | omega | (simp; done) | (simp; omega)) _)))).mono (by first | omega | (simp; done) | (simp; omega))) ((RB.out.below (by repeat (first | assumption | exact Below.refl _ _ | (refine Below.setCell ?_ (by first | omega | (simp; done) | (simp; omega)) _) | apply below_drewN | apply Below.drew | (refine Below.alloc ?_ (by first | omega | (simp; done) | (simp; omega)) _)))).mono (by first | omega | (simp; done) | (simp; omega))) false HU.out).mono ?_; rintro e1 W1 ⟨rfl, b1⟩; have d1 : Below w.heap.size w W1 := (by repeat (first | assumption | exact Below.refl _ _ | (refine Below.trans ?_ (b1.mono (by first | omega | (simp; done) | (simp; omega)))) | (refine Below.setCell ?_ (by first | omega | (simp; done) | (simp; omega)) _) | apply below_drewN | apply Below.drew | (refine Below.alloc ?_ (by first | omega | (simp; done) | (simp; omega)) _))); have s1 : w.heap.size < W1.heap.size := (by have := b1.size; (try simp at this);omega); obtain ⟨k1, f1⟩ := bcell b1; have x0 : W1.cell? ⟨w.heap.size, 0, none⟩ = some (.int .i64 a0_0) := (by rw [k1 _ _ (by first | omega | (simp; done) | (simp; omega))]; first | (simp; done) | go_simp); have xf0 : W1.frozen? ⟨w.heap.size, 0, none⟩ = false := (by rw [f1 _ _ (by first | omega | (simp; done) | (simp; omega))]; first | (simp; done) | go_simp); have x1 : W1.cell? ⟨w.heap.size, 1, none⟩ = some (.int .i64 a0_1) := (by rw [k1 _ _ (by first | omega | (simp; done) | (simp; omega))]; first | (simp; done) | go_simp); have xf1 : W1.frozen? ⟨w.heap.size, 1, none⟩ = false := (by rw [f1 _ _ (by first | omega | (simp; done) | (simp; omega))]; first | (simp; done) | go_simp); clear k1 f1 b1) | (go_at_call 41; refine (sluI_any _ _ _ v HV.out).mono ?_; rintro e2 W2 ⟨rfl, b2⟩; have d2 : Below w.heap.size w W2 := (by repeat (first | assumption | exact Below.refl _ _ | (refine Below.trans ?_ (b2.mono (by first | omega | (simp; done) | (simp; omega)))) | (refine Below.trans ?_ (d1.mono (by first | omega | (simp; done) | (simp; omega)))) | (refine Below.setCell ?_ (by first | omega | (simp; done) | (simp; omega)) _) | apply below_drewN | apply Below.drew | (refine Below.alloc ?_ (by first | omega | (simp; done) | (simp; omega)) _)))) | (go_at_call 40; refine (codeFor_k v false _ C (by have := HK.out; simpa using this)).mono ?_; rintro e3 w3 ⟨rfl, rfl⟩))
      exact bodyPost_ret (v := .tuple #[.slice none 0 0, .int .i64 C]) (by simp [results, Try.results25, go_sem]) rfl ⟨none, 0, rfl, (by repeat (first | assumption | exact Below.refl _ _ | (refine Below.trans ?_ (d2.mono (by first | omega | (simp; done) | (simp; omega)))) | (refine Below.setCell ?_ (by first | omega | (simp; done) | (simp; omega)) _) | apply below_drewN | apply Below.drew | (refine Below.alloc ?_ (by first | omega | (simp; done) | (simp; omega)) _))), rfl, fun h => absurd h (by simp)⟩
    · go_enter Try.func25, Try.ntmps25
      go_wp2_with (first | (go_at_call 53; refine (areHours_any _ _ _ _ _ _ xa1 xa2 _ ha1 ha2 ((RA.out.below (by repeat (first | assumption | exact Below.refl _ _ | (refine Below.setCell ?_ (by first | omega | (simp; done) | (simp; omega)) _) | apply below_drewN | apply Below.drew | (refine Below.alloc ?_ (by first | omega | (simp; done) | (simp; omega)) _)))).mono (by first | omega | (simp; done) | (simp; omega))) ((RB.out.below (by repeat (first | assumption | exact Below.refl _ _ | (refine Below.setCell ?_ (by first | omega | (simp; done) | (simp; omega)) _) | apply below_drewN | apply Below.drew | (refine Below.alloc ?_ (by first | omega | (simp; done) | (simp; omega)) _)))).mono (by first | omega | (simp; done) | (simp; omega))) true HU.out).mono ?_; rintro e1 W1 ⟨rfl, b1⟩; have d1 : Below w.heap.size w W1 := (by repeat (first | assumption | exact Below.refl _ _ | (refine Below.trans ?_ (b1.mono (by first | omega | (simp; done) | (simp; omega)))) | (refine Below.setCell ?_ (by first | omega | (simp; done) | (simp; omega)) _) | apply below_drewN | apply Below.drew | (refine Below.alloc ?_ (by first | omega | (simp; done) | (simp; omega)) _))); have s1 : w.heap.size < W1.heap.size := (by have := b1.size; (try simp at this);omega); have s1' : w.heap.size + 1 < W1.heap.size := (by have := b1.size; (try simp at this);omega); obtain ⟨k1, f1⟩ := bcell b1; have x0 : W1.cell? ⟨w.heap.size, 0, none⟩ = some (.int .i64 a0_0) := (by rw [k1 _ _ (by first | omega | (simp; done) | (simp; omega))]; first | (simp; done) | go_simp); have xf0 : W1.frozen? ⟨w.heap.size, 0, none⟩ = false := (by rw [f1 _ _ (by first | omega | (simp; done) | (simp; omega))]; first | (simp; done) | go_simp); have x1 : W1.cell? ⟨w.heap.size, 1, none⟩ = some (.int .i64 a0_1) := (by rw [k1 _ _ (by first | omega | (simp; done) | (simp; omega))]; first | (simp; done) | go_simp); have xf1 : W1.frozen? ⟨w.heap.size, 1, none⟩ = false := (by rw [f1 _ _ (by first | omega | (simp; done) | (simp; omega))]; first | (simp; done) | go_simp); have y0 : W1.cell? ⟨w.heap.size + 1, 0, none⟩ = some (.int .i64 a3) := (by rw [k1 _ _ (by first | omega | (simp; done) | (simp; omega))]; first | (simp; done) | go_simp); have yf0 : W1.frozen? ⟨w.heap.size + 1, 0, none⟩ = false := (by rw [f1 _ _ (by first | omega | (simp; done) | (simp; omega))]; first | (simp; done) | go_simp); clear k1 f1 b1) | (go_at_call 55; refine (within_any _ _ _ _).mono ?_; rintro e5 w5 ⟨rfl, rfl⟩; rw [← HG.out]) | (go_at_call 41; refine (sluI_any _ _ _ v HV.out).mono ?_; rintro e2 W2 ⟨rfl, b2⟩; have d2 : Below w.heap.size w W2 := (by repeat (first | assumption | exact Below.refl _ _ | (refine Below.trans ?_ (b2.mono (by first | omega | (simp; done) | (simp; omega)))) | (refine Below.trans ?_ (d1.mono (by first | omega | (simp; done) | (simp; omega)))) | (refine Below.setCell ?_ (by first | omega | (simp; done) | (simp; omega)) _) | apply below_drewN | apply Below.drew | (refine Below.alloc ?_ (by first | omega | (simp; done) | (simp; omega)) _)))) | (go_at_call 40; refine (codeFor_k v g _ C (by have := HK.out; simpa using this)).mono ?_; rintro e3 w3 ⟨rfl, rfl⟩))
      exact bodyPost_ret (v := .tuple #[.slice none 0 0, .int .i64 C]) (by simp [results, Try.results25, go_sem]) rfl ⟨none, 0, rfl, (by repeat (first | assumption | exact Below.refl _ _ | (refine Below.trans ?_ (d2.mono (by first | omega | (simp; done) | (simp; omega)))) | (refine Below.setCell ?_ (by first | omega | (simp; done) | (simp; omega)) _) | apply below_drewN | apply Below.drew | (refine Below.alloc ?_ (by first | omega | (simp; done) | (simp; omega)) _))), rfl, fun h => absurd h (by simp)⟩

end Go.Proofs.Ytcimigaimlojlaa
