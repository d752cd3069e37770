/- The level that some water reaches. -/
import Derived.Test.YthnioohiceohkaaFloL
namespace Go.Proofs.Ythnioohiceohkaa
open Go.RowKit

/-- at the h-th level there is enough water -/
def enP (r c : Int) (xs : List Int) (x : Nat) (v : Int) (h : Nat) : Prop := v ≤ fvol r c xs xs.length x (-2000 + (h : Int))
instance (r c : Int) (xs : List Int) (x : Nat) (v : Int) (h : Nat) : Decidable (enP r c xs x v h) := by unfold enP; exact inferInstance
theorem en_mono {r c : Int} {xs : List Int} {x : Nat} {v : Int} (hk : LandOk r c xs) (hx : x < xs.length) {h k : Nat} (hhk : h ≤ k) (hr : enP r c xs x v h) : enP r c xs x v k := Int.le_trans hr (fvol_mono hk rfl hx (by omega))
/-- how many of the first n levels have too little -/
def noEn (r c : Int) (xs : List Int) (x : Nat) (v : Int) : Nat → Nat
  | 0 => 0
  | n + 1 => noEn r c xs x v n + if enP r c xs x v n then 0 else 1
theorem noEn_lo {r c : Int} {xs : List Int} {x : Nat} {v : Int} {i : Nat} (h : ∀ k, k < i → ¬ enP r c xs x v k) : noEn r c xs x v i = i := by
  induction i with
  | zero => rfl
  | succ i ih => rw [noEn, ih (fun k hk => h k (by omega)), if_neg (h i (by omega))]
theorem noEn_hi {r c : Int} {xs : List Int} {x : Nat} {v : Int} (hk : LandOk r c xs) (hx : x < xs.length) {i : Nat} (n : Nat) (h : enP r c xs x v i) : noEn r c xs x v (i + n) = noEn r c xs x v i := by
  induction n with
  | zero => rfl
  | succ n ih =>
    show noEn r c xs x v (i + n) + (if enP r c xs x v (i + n) then 0 else 1) = _
    rw [ih, if_pos (en_mono hk hx (Nat.le_add_right i n) h)]
    rfl
theorem noEn_eq {r c : Int} {xs : List Int} {x : Nat} {v : Int} (hk : LandOk r c xs) (hx : x < xs.length) {i n : Nat} (hi : i ≤ n) (h1 : ∀ k, k < i → ¬ enP r c xs x v k) (h2 : i < n → enP r c xs x v i) : noEn r c xs x v n = i := by
  by_cases h : i < n
  · have := noEn_hi hk hx (v := v) (i := i) (n - i) (h2 h)
    rw [show i + (n - i) = n by omega] at this
    rw [this]
    exact noEn_lo h1
  · rw [show n = i by omega]
    exact noEn_lo h1
theorem noEn_le (r c : Int) (xs : List Int) (x : Nat) (v : Int) (n : Nat) : noEn r c xs x v n ≤ n := by
  induction n with
  | zero => exact Nat.le_refl _
  | succ n ih => rw [noEn]; split <;> omega
def vsOk (v : Int) : Prop := 1 ≤ v ∧ v ≤ 1000000000
instance (v : Int) : Decidable (vsOk v) := by unfold vsOk; exact inferInstance
def lrP (n x v : Int) : Prop := inC n x ∧ vsOk v
instance (n x v : Int) : Decidable (lrP n x v) := by unfold lrP inC vsOk; exact inferInstance
def lrIx (r c : Int) (xs : List Int) (x : Nat) (v : Int) : Nat := noEn r c xs x v 4001
theorem lr_iff {r c : Int} {xs : List Int} {x : Nat} {v : Int} (hk : LandOk r c xs) (hx : x < xs.length) : lrIx r c xs x v < 4001 ↔ enP r c xs x v 4000 := by
  constructor
  · intro h
    by_cases hr : enP r c xs x v 4000
    · exact hr
    · have : noEn r c xs x v 4001 = 4001 := noEn_lo (fun k hk' hrk => hr (en_mono hk hx (by omega) hrk))
      unfold lrIx at h
      omega
  · intro h
    unfold lrIx
    show noEn r c xs x v 4000 + (if enP r c xs x v 4000 then 0 else 1) < 4001
    rw [if_pos h]
    have := noEn_le r c xs x v 4000
    omega
def r0_LevelReached (a0_0 : Int) (a0_1 : Int) (xa0_2 : List Int) (a1 : Int) (a2 : Int) : Int := if (LandOk a0_0 a0_1 xa0_2 ∧ lrP xa0_2.length a1 a2) ∧ lrIx a0_0 a0_1 xa0_2 a1.toNat a2 < 4001 then -2000 + (lrIx a0_0 a0_1 xa0_2 a1.toNat a2 : Int) else 0
def r1_LevelReached (a0_0 : Int) (a0_1 : Int) (xa0_2 : List Int) (a1 : Int) (a2 : Int) : Int := if LandOk a0_0 a0_1 xa0_2 ∧ lrP xa0_2.length a1 a2 then (if lrIx a0_0 a0_1 xa0_2 a1.toNat a2 < 4001 then 0 else 5) else lcode a0_0 a0_1 xa0_2 (lrP xa0_2.length a1 a2)
theorem lr_ok {r c : Int} {xs : List Int} {x : Int} {v : Int} (h : LandOk r c xs ∧ lrP xs.length x v) (hi : lrIx r c xs x.toNat v < 4001) : r0_LevelReached r c xs x v = -2000 + (lrIx r c xs x.toNat v : Int) ∧ r1_LevelReached r c xs x v = 0 := ⟨if_pos ⟨h, hi⟩, by unfold r1_LevelReached; rw [if_pos h]; exact if_pos hi⟩
theorem lr_full {r c : Int} {xs : List Int} {x : Int} {v : Int} (h : LandOk r c xs ∧ lrP xs.length x v) (hi : ¬ lrIx r c xs x.toNat v < 4001) : r0_LevelReached r c xs x v = 0 ∧ r1_LevelReached r c xs x v = 5 := ⟨if_neg (fun h => hi h.2), by unfold r1_LevelReached; rw [if_pos h]; exact if_neg hi⟩
theorem lr_bad {r c : Int} {xs : List Int} {x v : Int} (h : ¬ (LandOk r c xs ∧ lrP xs.length x v)) : r0_LevelReached r c xs x v = 0 ∧ r1_LevelReached r c xs x v = lcode r c xs (lrP xs.length x v) := ⟨if_neg (fun e => h e.1), if_neg h⟩

set_option maxHeartbeats 800000 in
theorem floor2_t (a m : Int) (w : World) (h1 : -10000 ≤ a) (h2 : a ≤ 10000) (hm : a / 2 = m) :
    Calls Try.prog 30 #[.int .i64 a, .int .i64 2] w fun e w' => e = .returned (.int .i64 m) ∧ w = w' := by
  have HM := Lib.hid hm
  clear hm
  by_cases h : 0 ≤ a
  · have h3 : 0 ≤ a % 2 := by omega
    go_enter Try.func30, Try.ntmps30
    go_wp2
    go_ret
    exact ⟨ret_int HM.out, rfl⟩
  · have q1 : a.tdiv 2 = -((-a) / 2) := by rw [show a = -(-a) by omega, Int.neg_tdiv, Int.tdiv_eq_ediv_of_nonneg (by omega)]; simp
    have q2 : a.tmod 2 = -((-a) % 2) := by rw [show a = -(-a) by omega, Int.neg_tmod, Int.tmod_eq_emod_of_nonneg (by omega)]; simp
    have Q1 := Lib.hid q1
    have b1 : -5000 ≤ a.tdiv 2 := by omega
    have b2 : a.tdiv 2 ≤ 5000 := by omega
    by_cases ho : (-a) % 2 = 1
    · have b3 : a.tmod 2 < 0 := by omega
      have HE := Lib.hid (show a.tdiv 2 - 1 = m by have := HM.out; omega)
      clear q1 q2 ho
      go_enter Try.func30, Try.ntmps30
      go_wp2
      go_ret
      exact ⟨ret_int HE.out, rfl⟩
    · have b3 : ¬ a.tmod 2 < 0 := by omega
      have HE := Lib.hid (show a.tdiv 2 = m by have := HM.out; omega)
      clear q1 q2 ho
      go_enter Try.func30, Try.ntmps30
      go_wp2
      go_ret
      exact ⟨ret_int HE.out, rfl⟩


theorem leastLR_t (r c : Int) (A : Option Addr) (n k : Nat) (xs : List Int) (x : Nat) (hx : x < n) (v : Int) (w : World) (ha : Rd w w.heap.size A n xs) (hl : LandOk r c xs) :
    Calls Try.prog 35 #[.iface 61 (.agg #[.int .i64 r, .int .i64 c, .slice A n k, .int .i64 (x : Int)]), .int .i64 (-2000), .int .i64 2000, .int .i64 v] w fun e w' => e = .returned (.int .i64 (-2000 + (lrIx r c xs x v : Int))) ∧ Below w.heap.size w w' := by
  have hn := ha.1
  refine (leastF_t r c A n k xs x hx (-2000) v 4001 w ha hl (by omega) (by omega) (by omega)).mono ?_
  rintro e w' ⟨p, rfl, b, q0, q1, q2⟩
  rw [← hn] at q1 q2
  rw [show lrIx r c xs x v = p from noEn_eq hl (by omega) q0 q1 q2]
  exact ⟨rfl, b⟩

set_option maxRecDepth 100000 in
set_option maxHeartbeats 3200000 in
theorem implC_LevelReached (a0_0 : Int) (a0_1 : Int) (a0_2 : Option Addr) (la0_2 ca0_2 : Nat) (xa0_2 : List Int) (a1 : Int) (a2 : Int) (w : World) (ha0_0 : (Lit.int .i64 a0_0).wf = true) (ha0_1 : (Lit.int .i64 a0_1).wf = true) (ha0_2 : la0_2 ≤ 1048576) (ra0_2 : Rd w w.heap.size a0_2 la0_2 xa0_2) (fa0_2 : Wf xa0_2) (ha1 : (Lit.int .i64 a1).wf = true) (ha2 : (Lit.int .i64 a2).wf = true) :
    Calls Try.prog 9 #[.agg #[.int .i64 a0_0, .int .i64 a0_1, .slice a0_2 la0_2 ca0_2], .int .i64 a1, .int .i64 a2] w fun e w' => e = .returned (.tuple #[.int .i64 (r0_LevelReached a0_0 a0_1 xa0_2 a1 a2), .int .i64 (r1_LevelReached a0_0 a0_1 xa0_2 a1 a2)]) ∧ Below w.heap.size w w' := by
  have hln := ra0_2.1
  have RA := Lib.hid ra0_2
  clear ra0_2
  by_cases h : LandOk a0_0 a0_1 xa0_2 ∧ lrP xa0_2.length a1 a2
  · have hI : decide (inC la0_2 a1) = true := decide_eq_true (by rw [← hln]; exact h.2.1)
    have HI := Lib.hid hI
    have HC := Lib.hid (show lcode a0_0 a0_1 xa0_2 (lrP la0_2 a1 a2) = 0 by rw [← hln]; exact lcode_ok h.1 h.2)
    have H := Lib.hid h.1
    have hx9 := h.2.1
    unfold inC at hx9
    by_cases hi : lrIx a0_0 a0_1 xa0_2 a1.toNat a2 < 4001
    · rw [(lr_ok h hi).1, (lr_ok h hi).2]
      obtain ⟨x, hx0⟩ : ∃ x : Nat, a1 = (x : Int) := ⟨a1.toNat, by omega⟩
      have hx : x < la0_2 := by omega
      rw [show a1.toNat = x by omega] at hi ⊢
      obtain ⟨ix, hxx⟩ : ∃ i, i = lrIx a0_0 a0_1 xa0_2 x a2 := ⟨_, rfl⟩
      rw [← hxx] at hi ⊢
      have HX := Lib.hid hxx.symm
      have HX0 := Lib.hid hx0
      clear hxx hx9 hx0
      have e0 : ¬ 2000 < -2000 + (ix : Int) := by omega
      clear h
      obtain ⟨L, hL⟩ : ∃ L, L = decide (1 ≤ a2 ∧ a2 ≤ 1000000000) := ⟨_, rfl⟩
      have HLv := Lib.hid hL
      have HP := Lib.hid (show LandOk a0_0 a0_1 xa0_2 → L = decide (lrP la0_2 a1 a2) from fun _ => by rw [hL]; exact decide_eq_decide.2 ⟨fun h => ⟨of_decide_eq_true hI, h⟩, fun h => h.2⟩)
      clear hL hI
      go_enter Try.func9, Try.ntmps9
      go_wp2_with fail
      refine wp_region_held_drew (S := fun w' => w'.cell? ⟨w.heap.size, 0, none⟩ = some (.int .i64 a0_0) ∧ w'.cell? ⟨w.heap.size, 1, none⟩ = some (.int .i64 a0_1) ∧ w'.cell? ⟨w.heap.size, 2, none⟩ = some (.slice a0_2 la0_2 ca0_2)) (by kernel_rfl) ⟨by simp, by simp, by simp⟩ (fun hHeld => ?_)
      ((refine wpAnyH_take (i := 0) (oi := ⟨some 10, _, _, _, _, _⟩) (v := ?_) rfl (by kernel_rfl) (by kernel_rfl) (by kernel_rfl) (fun _ _ _ h => h) (Or.inl ⟨by rfl, ?_⟩) (by assumption) ?_; rotate_left 1; (focus (intro w hSw; (try dsimp only at hSw); go_simp <;> try (first | (with_reducible rfl) | (rw [if_neg (by omega)])))); try simp only [Act.put, List.setIfInBounds_toArray, List.set_cons_zero, List.set_cons_succ]); (refine wpAnyH_take (i := 1) (oi := ⟨some 11, _, _, _, _, _⟩) (v := ?_) rfl (by kernel_rfl) (by kernel_rfl) (by kernel_rfl) (fun _ _ _ h => h) (Or.inl ⟨by rfl, ?_⟩) (by assumption) ?_; rotate_left 1; (focus (intro w hSw; (try dsimp only at hSw); go_simp <;> try (first | (with_reducible rfl) | (rw [if_neg (by omega)])))); try simp only [Act.put, List.setIfInBounds_toArray, List.set_cons_zero, List.set_cons_succ]); (refine wpAnyH_take (i := 2) (oi := ⟨some 12, _, _, _, _, _⟩) (v := ?_) rfl (by kernel_rfl) (by kernel_rfl) (by kernel_rfl) (fun _ _ _ h => h) (Or.inl ⟨by rfl, ?_⟩) (by assumption) ?_; rotate_left 1; (focus (intro w hSw; (try dsimp only at hSw); go_simp <;> try (first | (with_reducible rfl) | (rw [if_neg (by omega)])))); try simp only [Act.put, List.setIfInBounds_toArray, List.set_cons_zero, List.set_cons_succ]))
      (refine wpAnyH_ready (rs := [3]) (by kernel_rfl) (by simp) ?_; refine AllReadyH.cons rfl (fun K hK => ?_) AllReadyH.nil; go_simp)
      refine (hasCell_t _ _ _ la0_2 _ a1 _ ha0_2 true HI.out).mono ?_
      rintro ea Wa ⟨rfl, ba⟩
      have q00 := (ba.cell (p := ⟨w.heap.size, 0, none⟩) (by first | omega | (simp; done) | (simp; omega))).trans hHeld.1
      have q01 := (ba.cell (p := ⟨w.heap.size, 1, none⟩) (by first | omega | (simp; done) | (simp; omega))).trans hHeld.2.1
      have q02 := (ba.cell (p := ⟨w.heap.size, 2, none⟩) (by first | omega | (simp; done) | (simp; omega))).trans hHeld.2.2
      have Ga : w.heap.size < Wa.heap.size := (by have := ba.size; (try simp at this); omega)
      have Da : Below w.heap.size w Wa := (by repeat (first | assumption | exact Below.refl _ _ | (refine Below.trans ?_ (ba.mono (by first | omega | (simp; done) | (simp; omega)))) | (refine Below.setCell ?_ (by first | omega | (simp; done) | (simp; omega)) _) | apply below_drewN | apply Below.drew | (refine Below.alloc ?_ (by first | omega | (simp; done) | (simp; omega)) _)))
      clear hHeld
      (refine hK.out _ _ ?_ (fun hHeld => ?_))
      · exact ⟨q00, q01, q02⟩
      ((refine wpAnyH_take (i := 4) (oi := ⟨some 14, _, _, _, _, _⟩) (v := ?_) rfl (by kernel_rfl) (by kernel_rfl) (by kernel_rfl) (fun _ _ _ h => h) (Or.inl ⟨by rfl, ?_⟩) (by assumption) ?_; rotate_left 1; (focus (intro w hSw; (try dsimp only at hSw); go_simp <;> try (first | (with_reducible rfl) | (rw [if_neg (by omega)])))); try simp only [Act.put, List.setIfInBounds_toArray, List.set_cons_zero, List.set_cons_succ]); (refine wpAnyH_take (i := 5) (oi := ⟨some 15, _, _, _, _, _⟩) (v := ?_) rfl (by kernel_rfl) (by kernel_rfl) (by kernel_rfl) (fun _ _ _ h => h) (Or.inl ⟨by rfl, ?_⟩) (by assumption) ?_; rotate_left 1; (focus (intro w hSw; (try dsimp only at hSw); go_simp <;> try (first | (with_reducible rfl) | (rw [if_neg (by omega)])))); try simp only [Act.put, List.setIfInBounds_toArray, List.set_cons_zero, List.set_cons_succ]))
      (refine wpAnyH_ready (rs := [6]) (by kernel_rfl) (by simp) ?_; refine AllReadyH.cons rfl (fun K hK => ?_) AllReadyH.nil; go_simp)
      refine (within_any _ _ _ _).mono ?_
      rintro eb Wb ⟨rfl, rfl⟩
      rw [← HLv.out]
      have hKeep := hHeld
      clear hHeld
      (refine hK.out _ _ ?_ (fun hHeld => ?_))
      · exact hKeep
      ((refine wpAnyH_take (i := 7) (oi := ⟨some 17, _, _, _, _, _⟩) (v := ?_) rfl (by kernel_rfl) (by kernel_rfl) (by kernel_rfl) (fun _ _ _ h => h) (Or.inl ⟨by rfl, ?_⟩) (by assumption) ?_; rotate_left 1; (focus (intro w hSw; (try dsimp only at hSw); go_simp <;> try (first | (with_reducible rfl) | (rw [if_neg (by omega)])))); try simp only [Act.put, List.setIfInBounds_toArray, List.set_cons_zero, List.set_cons_succ]))
      (refine wpAnyH_ready (rs := [8]) (by kernel_rfl) (by simp) ?_; refine AllReadyH.cons rfl (fun K hK => ?_) AllReadyH.nil; go_simp)
      refine (landCode_t a0_0 a0_1 a0_2 la0_2 ca0_2 xa0_2 L (lrP la0_2 a1 a2) _ ha0_2 ((RA.out.below (by repeat (first | assumption | exact Below.refl _ _ | (refine Below.trans ?_ (Da.mono (by first | omega | (simp; done) | (simp; omega)))) | (refine Below.setCell ?_ (by first | omega | (simp; done) | (simp; omega)) _) | apply below_drewN | apply Below.drew | (refine Below.alloc ?_ (by first | omega | (simp; done) | (simp; omega)) _)))).mono (by first | omega | (simp; done) | (simp; omega))) HP.out).mono ?_
      rintro ec Wc ⟨rfl, bc⟩
      rw [HC.out]
      have q10 := (bc.cell (p := ⟨w.heap.size, 0, none⟩) (by first | omega | (simp; done) | (simp; omega))).trans hHeld.1
      have q11 := (bc.cell (p := ⟨w.heap.size, 1, none⟩) (by first | omega | (simp; done) | (simp; omega))).trans hHeld.2.1
      have q12 := (bc.cell (p := ⟨w.heap.size, 2, none⟩) (by first | omega | (simp; done) | (simp; omega))).trans hHeld.2.2
      have Dc : Below w.heap.size w Wc := (by repeat (first | assumption | exact Below.refl _ _ | (refine Below.trans ?_ (bc.mono (by first | omega | (simp; done) | (simp; omega)))) | (refine Below.trans ?_ (Da.mono (by first | omega | (simp; done) | (simp; omega)))) | (refine Below.setCell ?_ (by first | omega | (simp; done) | (simp; omega)) _) | apply below_drewN | apply Below.drew | (refine Below.alloc ?_ (by first | omega | (simp; done) | (simp; omega)) _)))
      have Gc : w.heap.size < Wc.heap.size := (by have := bc.size; (try simp at this); omega)
      clear hHeld
      (refine hK.out _ _ ?_ (fun hHeld => ?_))
      · exact ⟨q10, q11, q12⟩
      ((refine wpAnyH_take (i := 9) (oi := ⟨some 8, _, _, _, _, _⟩) (v := ?_) rfl (by kernel_rfl) (by kernel_rfl) (by kernel_rfl) (fun _ _ _ h => h) (Or.inl ⟨by rfl, ?_⟩) (by assumption) ?_; rotate_left 1; (focus (intro w hSw; (try dsimp only at hSw); go_simp <;> try (first | (with_reducible rfl) | (rw [if_neg (by omega)])))); try simp only [Act.put, List.setIfInBounds_toArray, List.set_cons_zero, List.set_cons_succ]))
      refine wpAnyH_done (by kernel_rfl) ?_ _
      go_wp2_with (go_at_call 35; rw [HX0.out]; refine (leastLR_t a0_0 a0_1 _ la0_2 ca0_2 xa0_2 x hx a2 _ ((RA.out.below (by repeat (first | assumption | exact Below.refl _ _ | (refine Below.trans ?_ (Dc.mono (by first | omega | (simp; done) | (simp; omega)))) | (refine Below.setCell ?_ (by first | omega | (simp; done) | (simp; omega)) _) | apply below_drewN | apply Below.drew | (refine Below.alloc ?_ (by first | omega | (simp; done) | (simp; omega)) _)))).mono (by first | omega | (simp; done) | (simp; omega))) H.out).mono ?_; rintro e3 W3 ⟨rfl, b3⟩; rw [HX.out])
      go_ret2
      exact ⟨rfl, (by repeat (first | assumption | exact Below.refl _ _ | (refine Below.trans ?_ (b3.mono (by first | omega | (simp; done) | (simp; omega)))) | (refine Below.trans ?_ (Dc.mono (by first | omega | (simp; done) | (simp; omega)))) | (refine Below.setCell ?_ (by first | omega | (simp; done) | (simp; omega)) _) | apply below_drewN | apply Below.drew | (refine Below.alloc ?_ (by first | omega | (simp; done) | (simp; omega)) _)))⟩
    · rw [(lr_full h hi).1, (lr_full h hi).2]
      obtain ⟨x, hx0⟩ : ∃ x : Nat, a1 = (x : Int) := ⟨a1.toNat, by omega⟩
      have hx : x < la0_2 := by omega
      rw [show a1.toNat = x by omega] at hi
      have hle := noEn_le a0_0 a0_1 xa0_2 x a2 4001
      have HX := Lib.hid (show (lrIx a0_0 a0_1 xa0_2 x a2 : Int) = 4001 from by unfold lrIx at hi ⊢; omega)
      have HX0 := Lib.hid hx0
      clear hx9 hx0 hi hle
      clear h
      obtain ⟨L, hL⟩ : ∃ L, L = decide (1 ≤ a2 ∧ a2 ≤ 1000000000) := ⟨_, rfl⟩
      have HLv := Lib.hid hL
      have HP := Lib.hid (show LandOk a0_0 a0_1 xa0_2 → L = decide (lrP la0_2 a1 a2) from fun _ => by rw [hL]; exact decide_eq_decide.2 ⟨fun h => ⟨of_decide_eq_true hI, h⟩, fun h => h.2⟩)
      clear hL hI
      go_enter Try.func9, Try.ntmps9
      go_wp2_with fail
      refine wp_region_held_drew (S := fun w' => w'.cell? ⟨w.heap.size, 0, none⟩ = some (.int .i64 a0_0) ∧ w'.cell? ⟨w.heap.size, 1, none⟩ = some (.int .i64 a0_1) ∧ w'.cell? ⟨w.heap.size, 2, none⟩ = some (.slice a0_2 la0_2 ca0_2)) (by kernel_rfl) ⟨by simp, by simp, by simp⟩ (fun hHeld => ?_)
      ((refine wpAnyH_take (i := 0) (oi := ⟨some 10, _, _, _, _, _⟩) (v := ?_) rfl (by kernel_rfl) (by kernel_rfl) (by kernel_rfl) (fun _ _ _ h => h) (Or.inl ⟨by rfl, ?_⟩) (by assumption) ?_; rotate_left 1; (focus (intro w hSw; (try dsimp only at hSw); go_simp <;> try (first | (with_reducible rfl) | (rw [if_neg (by omega)])))); try simp only [Act.put, List.setIfInBounds_toArray, List.set_cons_zero, List.set_cons_succ]); (refine wpAnyH_take (i := 1) (oi := ⟨some 11, _, _, _, _, _⟩) (v := ?_) rfl (by kernel_rfl) (by kernel_rfl) (by kernel_rfl) (fun _ _ _ h => h) (Or.inl ⟨by rfl, ?_⟩) (by assumption) ?_; rotate_left 1; (focus (intro w hSw; (try dsimp only at hSw); go_simp <;> try (first | (with_reducible rfl) | (rw [if_neg (by omega)])))); try simp only [Act.put, List.setIfInBounds_toArray, List.set_cons_zero, List.set_cons_succ]); (refine wpAnyH_take (i := 2) (oi := ⟨some 12, _, _, _, _, _⟩) (v := ?_) rfl (by kernel_rfl) (by kernel_rfl) (by kernel_rfl) (fun _ _ _ h => h) (Or.inl ⟨by rfl, ?_⟩) (by assumption) ?_; rotate_left 1; (focus (intro w hSw; (try dsimp only at hSw); go_simp <;> try (first | (with_reducible rfl) | (rw [if_neg (by omega)])))); try simp only [Act.put, List.setIfInBounds_toArray, List.set_cons_zero, List.set_cons_succ]))
      (refine wpAnyH_ready (rs := [3]) (by kernel_rfl) (by simp) ?_; refine AllReadyH.cons rfl (fun K hK => ?_) AllReadyH.nil; go_simp)
      refine (hasCell_t _ _ _ la0_2 _ a1 _ ha0_2 true HI.out).mono ?_
      rintro ea Wa ⟨rfl, ba⟩
      have q00 := (ba.cell (p := ⟨w.heap.size, 0, none⟩) (by first | omega | (simp; done) | (simp; omega))).trans hHeld.1
      have q01 := (ba.cell (p := ⟨w.heap.size, 1, none⟩) (by first | omega | (simp; done) | (simp; omega))).trans hHeld.2.1
      have q02 := (ba.cell (p := ⟨w.heap.size, 2, none⟩) (by first | omega | (simp; done) | (simp; omega))).trans hHeld.2.2
      have Ga : w.heap.size < Wa.heap.size := (by have := ba.size; (try simp at this); omega)
      have Da : Below w.heap.size w Wa := (by repeat (first | assumption | exact Below.refl _ _ | (refine Below.trans ?_ (ba.mono (by first | omega | (simp; done) | (simp; omega)))) | (refine Below.setCell ?_ (by first | omega | (simp; done) | (simp; omega)) _) | apply below_drewN | apply Below.drew | (refine Below.alloc ?_ (by first | omega | (simp; done) | (simp; omega)) _)))
      clear hHeld
      (refine hK.out _ _ ?_ (fun hHeld => ?_))
      · exact ⟨q00, q01, q02⟩
      ((refine wpAnyH_take (i := 4) (oi := ⟨some 14, _, _, _, _, _⟩) (v := ?_) rfl (by kernel_rfl) (by kernel_rfl) (by kernel_rfl) (fun _ _ _ h => h) (Or.inl ⟨by rfl, ?_⟩) (by assumption) ?_; rotate_left 1; (focus (intro w hSw; (try dsimp only at hSw); go_simp <;> try (first | (with_reducible rfl) | (rw [if_neg (by omega)])))); try simp only [Act.put, List.setIfInBounds_toArray, List.set_cons_zero, List.set_cons_succ]); (refine wpAnyH_take (i := 5) (oi := ⟨some 15, _, _, _, _, _⟩) (v := ?_) rfl (by kernel_rfl) (by kernel_rfl) (by kernel_rfl) (fun _ _ _ h => h) (Or.inl ⟨by rfl, ?_⟩) (by assumption) ?_; rotate_left 1; (focus (intro w hSw; (try dsimp only at hSw); go_simp <;> try (first | (with_reducible rfl) | (rw [if_neg (by omega)])))); try simp only [Act.put, List.setIfInBounds_toArray, List.set_cons_zero, List.set_cons_succ]))
      (refine wpAnyH_ready (rs := [6]) (by kernel_rfl) (by simp) ?_; refine AllReadyH.cons rfl (fun K hK => ?_) AllReadyH.nil; go_simp)
      refine (within_any _ _ _ _).mono ?_
      rintro eb Wb ⟨rfl, rfl⟩
      rw [← HLv.out]
      have hKeep := hHeld
      clear hHeld
      (refine hK.out _ _ ?_ (fun hHeld => ?_))
      · exact hKeep
      ((refine wpAnyH_take (i := 7) (oi := ⟨some 17, _, _, _, _, _⟩) (v := ?_) rfl (by kernel_rfl) (by kernel_rfl) (by kernel_rfl) (fun _ _ _ h => h) (Or.inl ⟨by rfl, ?_⟩) (by assumption) ?_; rotate_left 1; (focus (intro w hSw; (try dsimp only at hSw); go_simp <;> try (first | (with_reducible rfl) | (rw [if_neg (by omega)])))); try simp only [Act.put, List.setIfInBounds_toArray, List.set_cons_zero, List.set_cons_succ]))
      (refine wpAnyH_ready (rs := [8]) (by kernel_rfl) (by simp) ?_; refine AllReadyH.cons rfl (fun K hK => ?_) AllReadyH.nil; go_simp)
      refine (landCode_t a0_0 a0_1 a0_2 la0_2 ca0_2 xa0_2 L (lrP la0_2 a1 a2) _ ha0_2 ((RA.out.below (by repeat (first | assumption | exact Below.refl _ _ | (refine Below.trans ?_ (Da.mono (by first | omega | (simp; done) | (simp; omega)))) | (refine Below.setCell ?_ (by first | omega | (simp; done) | (simp; omega)) _) | apply below_drewN | apply Below.drew | (refine Below.alloc ?_ (by first | omega | (simp; done) | (simp; omega)) _)))).mono (by first | omega | (simp; done) | (simp; omega))) HP.out).mono ?_
      rintro ec Wc ⟨rfl, bc⟩
      rw [HC.out]
      have q10 := (bc.cell (p := ⟨w.heap.size, 0, none⟩) (by first | omega | (simp; done) | (simp; omega))).trans hHeld.1
      have q11 := (bc.cell (p := ⟨w.heap.size, 1, none⟩) (by first | omega | (simp; done) | (simp; omega))).trans hHeld.2.1
      have q12 := (bc.cell (p := ⟨w.heap.size, 2, none⟩) (by first | omega | (simp; done) | (simp; omega))).trans hHeld.2.2
      have Dc : Below w.heap.size w Wc := (by repeat (first | assumption | exact Below.refl _ _ | (refine Below.trans ?_ (bc.mono (by first | omega | (simp; done) | (simp; omega)))) | (refine Below.trans ?_ (Da.mono (by first | omega | (simp; done) | (simp; omega)))) | (refine Below.setCell ?_ (by first | omega | (simp; done) | (simp; omega)) _) | apply below_drewN | apply Below.drew | (refine Below.alloc ?_ (by first | omega | (simp; done) | (simp; omega)) _)))
      have Gc : w.heap.size < Wc.heap.size := (by have := bc.size; (try simp at this); omega)
      clear hHeld
      (refine hK.out _ _ ?_ (fun hHeld => ?_))
      · exact ⟨q10, q11, q12⟩
      ((refine wpAnyH_take (i := 9) (oi := ⟨some 8, _, _, _, _, _⟩) (v := ?_) rfl (by kernel_rfl) (by kernel_rfl) (by kernel_rfl) (fun _ _ _ h => h) (Or.inl ⟨by rfl, ?_⟩) (by assumption) ?_; rotate_left 1; (focus (intro w hSw; (try dsimp only at hSw); go_simp <;> try (first | (with_reducible rfl) | (rw [if_neg (by omega)])))); try simp only [Act.put, List.setIfInBounds_toArray, List.set_cons_zero, List.set_cons_succ]))
      refine wpAnyH_done (by kernel_rfl) ?_ _
      go_wp2_with (go_at_call 35; rw [HX0.out]; refine (leastLR_t a0_0 a0_1 _ la0_2 ca0_2 xa0_2 x hx a2 _ ((RA.out.below (by repeat (first | assumption | exact Below.refl _ _ | (refine Below.trans ?_ (Dc.mono (by first | omega | (simp; done) | (simp; omega)))) | (refine Below.setCell ?_ (by first | omega | (simp; done) | (simp; omega)) _) | apply below_drewN | apply Below.drew | (refine Below.alloc ?_ (by first | omega | (simp; done) | (simp; omega)) _)))).mono (by first | omega | (simp; done) | (simp; omega))) H.out).mono ?_; rintro e3 W3 ⟨rfl, b3⟩; rw [HX.out])
      go_ret2
      exact ⟨rfl, (by repeat (first | assumption | exact Below.refl _ _ | (refine Below.trans ?_ (b3.mono (by first | omega | (simp; done) | (simp; omega)))) | (refine Below.trans ?_ (Dc.mono (by first | omega | (simp; done) | (simp; omega)))) | (refine Below.setCell ?_ (by first | omega | (simp; done) | (simp; omega)) _) | apply below_drewN | apply Below.drew | (refine Below.alloc ?_ (by first | omega | (simp; done) | (simp; omega)) _)))⟩
  · rw [(lr_bad h).1, (lr_bad h).2]
    have e2 := lcode_ne h
    rw [hln] at e2 ⊢
    clear h
    generalize hC : lcode a0_0 a0_1 xa0_2 (lrP la0_2 a1 a2) = C at *
    have HC := Lib.hid hC
    clear hC
    cases hI : decide (inC la0_2 a1) with
    | true =>
      have HI := Lib.hid hI
      have h := True.intro
      clear h
      obtain ⟨L, hL⟩ : ∃ L, L = decide (1 ≤ a2 ∧ a2 ≤ 1000000000) := ⟨_, rfl⟩
      have HLv := Lib.hid hL
      have HP := Lib.hid (show LandOk a0_0 a0_1 xa0_2 → L = decide (lrP la0_2 a1 a2) from fun _ => by rw [hL]; exact decide_eq_decide.2 ⟨fun h => ⟨of_decide_eq_true hI, h⟩, fun h => h.2⟩)
      clear hL hI
      go_enter Try.func9, Try.ntmps9
      go_wp2_with fail
      refine wp_region_held_drew (S := fun w' => w'.cell? ⟨w.heap.size, 0, none⟩ = some (.int .i64 a0_0) ∧ w'.cell? ⟨w.heap.size, 1, none⟩ = some (.int .i64 a0_1) ∧ w'.cell? ⟨w.heap.size, 2, none⟩ = some (.slice a0_2 la0_2 ca0_2)) (by kernel_rfl) ⟨by simp, by simp, by simp⟩ (fun hHeld => ?_)
      ((refine wpAnyH_take (i := 0) (oi := ⟨some 10, _, _, _, _, _⟩) (v := ?_) rfl (by kernel_rfl) (by kernel_rfl) (by kernel_rfl) (fun _ _ _ h => h) (Or.inl ⟨by rfl, ?_⟩) (by assumption) ?_; rotate_left 1; (focus (intro w hSw; (try dsimp only at hSw); go_simp <;> try (first | (with_reducible rfl) | (rw [if_neg (by omega)])))); try simp only [Act.put, List.setIfInBounds_toArray, List.set_cons_zero, List.set_cons_succ]); (refine wpAnyH_take (i := 1) (oi := ⟨some 11, _, _, _, _, _⟩) (v := ?_) rfl (by kernel_rfl) (by kernel_rfl) (by kernel_rfl) (fun _ _ _ h => h) (Or.inl ⟨by rfl, ?_⟩) (by assumption) ?_; rotate_left 1; (focus (intro w hSw; (try dsimp only at hSw); go_simp <;> try (first | (with_reducible rfl) | (rw [if_neg (by omega)])))); try simp only [Act.put, List.setIfInBounds_toArray, List.set_cons_zero, List.set_cons_succ]); (refine wpAnyH_take (i := 2) (oi := ⟨some 12, _, _, _, _, _⟩) (v := ?_) rfl (by kernel_rfl) (by kernel_rfl) (by kernel_rfl) (fun _ _ _ h => h) (Or.inl ⟨by rfl, ?_⟩) (by assumption) ?_; rotate_left 1; (focus (intro w hSw; (try dsimp only at hSw); go_simp <;> try (first | (with_reducible rfl) | (rw [if_neg (by omega)])))); try simp only [Act.put, List.setIfInBounds_toArray, List.set_cons_zero, List.set_cons_succ]))
      (refine wpAnyH_ready (rs := [3]) (by kernel_rfl) (by simp) ?_; refine AllReadyH.cons rfl (fun K hK => ?_) AllReadyH.nil; go_simp)
      refine (hasCell_t _ _ _ la0_2 _ a1 _ ha0_2 true HI.out).mono ?_
      rintro ea Wa ⟨rfl, ba⟩
      have q00 := (ba.cell (p := ⟨w.heap.size, 0, none⟩) (by first | omega | (simp; done) | (simp; omega))).trans hHeld.1
      have q01 := (ba.cell (p := ⟨w.heap.size, 1, none⟩) (by first | omega | (simp; done) | (simp; omega))).trans hHeld.2.1
      have q02 := (ba.cell (p := ⟨w.heap.size, 2, none⟩) (by first | omega | (simp; done) | (simp; omega))).trans hHeld.2.2
      have Ga : w.heap.size < Wa.heap.size := (by have := ba.size; (try simp at this); omega)
      have Da : Below w.heap.size w Wa := (by repeat (first | assumption | exact Below.refl _ _ | (refine Below.trans ?_ (ba.mono (by first | omega | (simp; done) | (simp; omega)))) | (refine Below.setCell ?_ (by first | omega | (simp; done) | (simp; omega)) _) | apply below_drewN | apply Below.drew | (refine Below.alloc ?_ (by first | omega | (simp; done) | (simp; omega)) _)))
      clear hHeld
      (refine hK.out _ _ ?_ (fun hHeld => ?_))
      · exact ⟨q00, q01, q02⟩
      ((refine wpAnyH_take (i := 4) (oi := ⟨some 14, _, _, _, _, _⟩) (v := ?_) rfl (by kernel_rfl) (by kernel_rfl) (by kernel_rfl) (fun _ _ _ h => h) (Or.inl ⟨by rfl, ?_⟩) (by assumption) ?_; rotate_left 1; (focus (intro w hSw; (try dsimp only at hSw); go_simp <;> try (first | (with_reducible rfl) | (rw [if_neg (by omega)])))); try simp only [Act.put, List.setIfInBounds_toArray, List.set_cons_zero, List.set_cons_succ]); (refine wpAnyH_take (i := 5) (oi := ⟨some 15, _, _, _, _, _⟩) (v := ?_) rfl (by kernel_rfl) (by kernel_rfl) (by kernel_rfl) (fun _ _ _ h => h) (Or.inl ⟨by rfl, ?_⟩) (by assumption) ?_; rotate_left 1; (focus (intro w hSw; (try dsimp only at hSw); go_simp <;> try (first | (with_reducible rfl) | (rw [if_neg (by omega)])))); try simp only [Act.put, List.setIfInBounds_toArray, List.set_cons_zero, List.set_cons_succ]))
      (refine wpAnyH_ready (rs := [6]) (by kernel_rfl) (by simp) ?_; refine AllReadyH.cons rfl (fun K hK => ?_) AllReadyH.nil; go_simp)
      refine (within_any _ _ _ _).mono ?_
      rintro eb Wb ⟨rfl, rfl⟩
      rw [← HLv.out]
      have hKeep := hHeld
      clear hHeld
      (refine hK.out _ _ ?_ (fun hHeld => ?_))
      · exact hKeep
      ((refine wpAnyH_take (i := 7) (oi := ⟨some 17, _, _, _, _, _⟩) (v := ?_) rfl (by kernel_rfl) (by kernel_rfl) (by kernel_rfl) (fun _ _ _ h => h) (Or.inl ⟨by rfl, ?_⟩) (by assumption) ?_; rotate_left 1; (focus (intro w hSw; (try dsimp only at hSw); go_simp <;> try (first | (with_reducible rfl) | (rw [if_neg (by omega)])))); try simp only [Act.put, List.setIfInBounds_toArray, List.set_cons_zero, List.set_cons_succ]))
      (refine wpAnyH_ready (rs := [8]) (by kernel_rfl) (by simp) ?_; refine AllReadyH.cons rfl (fun K hK => ?_) AllReadyH.nil; go_simp)
      refine (landCode_t a0_0 a0_1 a0_2 la0_2 ca0_2 xa0_2 L (lrP la0_2 a1 a2) _ ha0_2 ((RA.out.below (by repeat (first | assumption | exact Below.refl _ _ | (refine Below.trans ?_ (Da.mono (by first | omega | (simp; done) | (simp; omega)))) | (refine Below.setCell ?_ (by first | omega | (simp; done) | (simp; omega)) _) | apply below_drewN | apply Below.drew | (refine Below.alloc ?_ (by first | omega | (simp; done) | (simp; omega)) _)))).mono (by first | omega | (simp; done) | (simp; omega))) HP.out).mono ?_
      rintro ec Wc ⟨rfl, bc⟩
      rw [HC.out]
      have q10 := (bc.cell (p := ⟨w.heap.size, 0, none⟩) (by first | omega | (simp; done) | (simp; omega))).trans hHeld.1
      have q11 := (bc.cell (p := ⟨w.heap.size, 1, none⟩) (by first | omega | (simp; done) | (simp; omega))).trans hHeld.2.1
      have q12 := (bc.cell (p := ⟨w.heap.size, 2, none⟩) (by first | omega | (simp; done) | (simp; omega))).trans hHeld.2.2
      have Dc : Below w.heap.size w Wc := (by repeat (first | assumption | exact Below.refl _ _ | (refine Below.trans ?_ (bc.mono (by first | omega | (simp; done) | (simp; omega)))) | (refine Below.trans ?_ (Da.mono (by first | omega | (simp; done) | (simp; omega)))) | (refine Below.setCell ?_ (by first | omega | (simp; done) | (simp; omega)) _) | apply below_drewN | apply Below.drew | (refine Below.alloc ?_ (by first | omega | (simp; done) | (simp; omega)) _)))
      have Gc : w.heap.size < Wc.heap.size := (by have := bc.size; (try simp at this); omega)
      clear hHeld
      (refine hK.out _ _ ?_ (fun hHeld => ?_))
      · exact ⟨q10, q11, q12⟩
      ((refine wpAnyH_take (i := 9) (oi := ⟨some 8, _, _, _, _, _⟩) (v := ?_) rfl (by kernel_rfl) (by kernel_rfl) (by kernel_rfl) (fun _ _ _ h => h) (Or.inl ⟨by rfl, ?_⟩) (by assumption) ?_; rotate_left 1; (focus (intro w hSw; (try dsimp only at hSw); go_simp <;> try (first | (with_reducible rfl) | (rw [if_neg (by omega)])))); try simp only [Act.put, List.setIfInBounds_toArray, List.set_cons_zero, List.set_cons_succ]))
      refine wpAnyH_done (by kernel_rfl) ?_ _
      go_wp2
      go_ret2
      exact ⟨rfl, Dc⟩
    | false =>
      have HI := Lib.hid hI
      have HP := Lib.hid (show LandOk a0_0 a0_1 xa0_2 → false = decide (lrP la0_2 a1 a2) from fun _ => (decide_eq_false (fun h => of_decide_eq_false hI h.1)).symm)
      clear hI
      go_enter Try.func9, Try.ntmps9
      go_wp2_with fail
      refine wp_region_held_drew (S := fun w' => w'.cell? ⟨w.heap.size, 0, none⟩ = some (.int .i64 a0_0) ∧ w'.cell? ⟨w.heap.size, 1, none⟩ = some (.int .i64 a0_1) ∧ w'.cell? ⟨w.heap.size, 2, none⟩ = some (.slice a0_2 la0_2 ca0_2)) (by kernel_rfl) ⟨by simp, by simp, by simp⟩ (fun hHeld => ?_)
      ((refine wpAnyH_take (i := 0) (oi := ⟨some 10, _, _, _, _, _⟩) (v := ?_) rfl (by kernel_rfl) (by kernel_rfl) (by kernel_rfl) (fun _ _ _ h => h) (Or.inl ⟨by rfl, ?_⟩) (by assumption) ?_; rotate_left 1; (focus (intro w hSw; (try dsimp only at hSw); go_simp <;> try (first | (with_reducible rfl) | (rw [if_neg (by omega)])))); try simp only [Act.put, List.setIfInBounds_toArray, List.set_cons_zero, List.set_cons_succ]); (refine wpAnyH_take (i := 1) (oi := ⟨some 11, _, _, _, _, _⟩) (v := ?_) rfl (by kernel_rfl) (by kernel_rfl) (by kernel_rfl) (fun _ _ _ h => h) (Or.inl ⟨by rfl, ?_⟩) (by assumption) ?_; rotate_left 1; (focus (intro w hSw; (try dsimp only at hSw); go_simp <;> try (first | (with_reducible rfl) | (rw [if_neg (by omega)])))); try simp only [Act.put, List.setIfInBounds_toArray, List.set_cons_zero, List.set_cons_succ]); (refine wpAnyH_take (i := 2) (oi := ⟨some 12, _, _, _, _, _⟩) (v := ?_) rfl (by kernel_rfl) (by kernel_rfl) (by kernel_rfl) (fun _ _ _ h => h) (Or.inl ⟨by rfl, ?_⟩) (by assumption) ?_; rotate_left 1; (focus (intro w hSw; (try dsimp only at hSw); go_simp <;> try (first | (with_reducible rfl) | (rw [if_neg (by omega)])))); try simp only [Act.put, List.setIfInBounds_toArray, List.set_cons_zero, List.set_cons_succ]))
      (refine wpAnyH_ready (rs := [3]) (by kernel_rfl) (by simp) ?_; refine AllReadyH.cons rfl (fun K hK => ?_) AllReadyH.nil; go_simp)
      refine (hasCell_t _ _ _ la0_2 _ a1 _ ha0_2 false HI.out).mono ?_
      rintro ea Wa ⟨rfl, ba⟩
      have q00 := (ba.cell (p := ⟨w.heap.size, 0, none⟩) (by first | omega | (simp; done) | (simp; omega))).trans hHeld.1
      have q01 := (ba.cell (p := ⟨w.heap.size, 1, none⟩) (by first | omega | (simp; done) | (simp; omega))).trans hHeld.2.1
      have q02 := (ba.cell (p := ⟨w.heap.size, 2, none⟩) (by first | omega | (simp; done) | (simp; omega))).trans hHeld.2.2
      have Ga : w.heap.size < Wa.heap.size := (by have := ba.size; (try simp at this); omega)
      have Da : Below w.heap.size w Wa := (by repeat (first | assumption | exact Below.refl _ _ | (refine Below.trans ?_ (ba.mono (by first | omega | (simp; done) | (simp; omega)))) | (refine Below.setCell ?_ (by first | omega | (simp; done) | (simp; omega)) _) | apply below_drewN | apply Below.drew | (refine Below.alloc ?_ (by first | omega | (simp; done) | (simp; omega)) _)))
      clear hHeld
      (refine hK.out _ _ ?_ (fun hHeld => ?_))
      · exact ⟨q00, q01, q02⟩
      ((refine wpAnyH_take (i := 4) (oi := ⟨some 14, _, _, _, _, _⟩) (v := ?_) rfl (by kernel_rfl) (by kernel_rfl) (by kernel_rfl) (fun _ _ _ h => h) (Or.inl ⟨by rfl, ?_⟩) (by assumption) ?_; rotate_left 1; (focus (intro w hSw; (try dsimp only at hSw); go_simp <;> try (first | (with_reducible rfl) | (rw [if_neg (by omega)])))); try simp only [Act.put, List.setIfInBounds_toArray, List.set_cons_zero, List.set_cons_succ]); (refine wpAnyH_take (i := 5) (oi := ⟨some 15, _, _, _, _, _⟩) (v := undef) rfl (by kernel_rfl) (by kernel_rfl) (by kernel_rfl) (fun _ _ _ h => h) (Or.inr ⟨by rfl, rfl⟩) (by assumption) ?_; try simp only [Act.put, List.setIfInBounds_toArray, List.set_cons_zero, List.set_cons_succ]); (refine wpAnyH_take (i := 6) (oi := ⟨some 16, _, _, _, _, _⟩) (v := undef) rfl (by kernel_rfl) (by kernel_rfl) (by kernel_rfl) (fun _ _ _ h => h) (Or.inr ⟨by rfl, rfl⟩) (by assumption) ?_; try simp only [Act.put, List.setIfInBounds_toArray, List.set_cons_zero, List.set_cons_succ]); (refine wpAnyH_take (i := 7) (oi := ⟨some 17, _, _, _, _, _⟩) (v := ?_) rfl (by kernel_rfl) (by kernel_rfl) (by kernel_rfl) (fun _ _ _ h => h) (Or.inl ⟨by rfl, ?_⟩) (by assumption) ?_; rotate_left 1; (focus (intro w hSw; (try dsimp only at hSw); go_simp <;> try (first | (with_reducible rfl) | (rw [if_neg (by omega)])))); try simp only [Act.put, List.setIfInBounds_toArray, List.set_cons_zero, List.set_cons_succ]))
      (refine wpAnyH_ready (rs := [8]) (by kernel_rfl) (by simp) ?_; refine AllReadyH.cons rfl (fun K hK => ?_) AllReadyH.nil; go_simp)
      refine (landCode_t a0_0 a0_1 a0_2 la0_2 ca0_2 xa0_2 false (lrP la0_2 a1 a2) _ ha0_2 ((RA.out.below (by repeat (first | assumption | exact Below.refl _ _ | (refine Below.trans ?_ (Da.mono (by first | omega | (simp; done) | (simp; omega)))) | (refine Below.setCell ?_ (by first | omega | (simp; done) | (simp; omega)) _) | apply below_drewN | apply Below.drew | (refine Below.alloc ?_ (by first | omega | (simp; done) | (simp; omega)) _)))).mono (by first | omega | (simp; done) | (simp; omega))) HP.out).mono ?_
      rintro ec Wc ⟨rfl, bc⟩
      rw [HC.out]
      have q10 := (bc.cell (p := ⟨w.heap.size, 0, none⟩) (by first | omega | (simp; done) | (simp; omega))).trans hHeld.1
      have q11 := (bc.cell (p := ⟨w.heap.size, 1, none⟩) (by first | omega | (simp; done) | (simp; omega))).trans hHeld.2.1
      have q12 := (bc.cell (p := ⟨w.heap.size, 2, none⟩) (by first | omega | (simp; done) | (simp; omega))).trans hHeld.2.2
      have Dc : Below w.heap.size w Wc := (by repeat (first | assumption | exact Below.refl _ _ | (refine Below.trans ?_ (bc.mono (by first | omega | (simp; done) | (simp; omega)))) | (refine Below.trans ?_ (Da.mono (by first | omega | (simp; done) | (simp; omega)))) | (refine Below.setCell ?_ (by first | omega | (simp; done) | (simp; omega)) _) | apply below_drewN | apply Below.drew | (refine Below.alloc ?_ (by first | omega | (simp; done) | (simp; omega)) _)))
      have Gc : w.heap.size < Wc.heap.size := (by have := bc.size; (try simp at this); omega)
      clear hHeld
      (refine hK.out _ _ ?_ (fun hHeld => ?_))
      · exact ⟨q10, q11, q12⟩
      ((refine wpAnyH_take (i := 9) (oi := ⟨some 8, _, _, _, _, _⟩) (v := ?_) rfl (by kernel_rfl) (by kernel_rfl) (by kernel_rfl) (fun _ _ _ h => h) (Or.inl ⟨by rfl, ?_⟩) (by assumption) ?_; rotate_left 1; (focus (intro w hSw; (try dsimp only at hSw); go_simp <;> try (first | (with_reducible rfl) | (rw [if_neg (by omega)])))); try simp only [Act.put, List.setIfInBounds_toArray, List.set_cons_zero, List.set_cons_succ]))
      refine wpAnyH_done (by kernel_rfl) ?_ _
      go_wp2
      go_ret2
      exact ⟨rfl, Dc⟩

set_option maxRecDepth 100000 in
set_option maxHeartbeats 3200000 in
theorem specC_LevelReached (a0_0 : Int) (a0_1 : Int) (a0_2 : Option Addr) (la0_2 ca0_2 : Nat) (xa0_2 : List Int) (a1 : Int) (a2 : Int) (w : World) (ha0_0 : (Lit.int .i64 a0_0).wf = true) (ha0_1 : (Lit.int .i64 a0_1).wf = true) (ha0_2 : la0_2 ≤ 1048576) (ra0_2 : Rd w w.heap.size a0_2 la0_2 xa0_2) (fa0_2 : Wf xa0_2) (ha1 : (Lit.int .i64 a1).wf = true) (ha2 : (Lit.int .i64 a2).wf = true) :
    Calls Try.prog 7 #[.agg #[.int .i64 a0_0, .int .i64 a0_1, .slice a0_2 la0_2 ca0_2], .int .i64 a1, .int .i64 a2] w fun e w' => e = .returned (.tuple #[.int .i64 (r0_LevelReached a0_0 a0_1 xa0_2 a1 a2), .int .i64 (r1_LevelReached a0_0 a0_1 xa0_2 a1 a2)]) ∧ Below w.heap.size w w' := by
  have hln := ra0_2.1
  have RA := Lib.hid ra0_2
  clear ra0_2
  by_cases h : LandOk a0_0 a0_1 xa0_2 ∧ lrP xa0_2.length a1 a2
  · have H := Lib.hid h.1
    have hlen := h.1.len
    have HC := Lib.hid (show lcode a0_0 a0_1 xa0_2 (inC la0_2 a1) = 0 by rw [← hln]; exact lcode_ok h.1 h.2.1)
    obtain ⟨g1, g2⟩ := h.2.2
    have hx9 := h.2.1
    unfold inC at hx9
    have HY := Lib.hid (show lvl 2000 from ⟨by omega, by omega⟩)
    obtain ⟨x, hx0⟩ : ∃ x : Nat, a1 = (x : Int) := ⟨a1.toNat, by omega⟩
    have hx : x < la0_2 := by omega
    have h144 : la0_2 ≤ 144 := by omega
    have HX0 := Lib.hid hx0
    obtain ⟨L, hL⟩ : ∃ L, L = depN (2000) xa0_2 (wetB a0_0 a0_1 (2000) xa0_2 la0_2 x) la0_2 := ⟨_, rfl⟩
    have HL := Lib.hid hL
    have HBL := Lib.hid (show ∀ j, j < la0_2 → -5000 ≤ L.getD j 0 ∧ L.getD j 0 ≤ 5000 from fun j hj => by rw [hL, depN_at (2000) xa0_2 _ la0_2 j hj]; exact depK_bd H.out HY.out _ j (by omega))
    have SL : fvol a0_0 a0_1 xa0_2 la0_2 x (2000) = sumN L la0_2 := by rw [hL]; rfl
    have hh := h.1.2.2.2 x (by omega)
    obtain ⟨p0, hp0⟩ : ∃ p : Nat, xa0_2.getD x 0 = -2000 + (p : Int) := ⟨(xa0_2.getD x 0 + 2000).toNat, by omega⟩
    have hp0' : p0 ≤ 4000 := by omega
    have HLO := Lib.hid (show ¬ enP a0_0 a0_1 xa0_2 x a2 p0 from by unfold enP; rw [fvol_low (by omega)]; omega)
    have HP0 := Lib.hid hp0
    obtain ⟨ab, o, hab, hbB, hc⟩ := RA.out.2 (by omega)
    have c1 := hc x hx
    rw [hp0] at c1
    have HAB := Lib.hid hab
    subst hab
    by_cases hi : lrIx a0_0 a0_1 xa0_2 a1.toNat a2 < 4001
    · rw [(lr_ok h hi).1, (lr_ok h hi).2]
      rw [show a1.toNat = x by omega] at hi ⊢
      have HR := Lib.hid ((lr_iff h.1 (by omega)).1 hi)
      have hv : ¬ sumN L la0_2 < a2 := by
        have := HR.out
        unfold enP at this
        rw [hln] at this
        rw [← SL]
        exact Int.not_lt.2 this
      have hp1 : p0 < 4000 := by
        rcases Nat.lt_or_ge p0 4000 with g | g
        · exact g
        · exact absurd HR.out (by rw [show 4000 = p0 by omega]; exact HLO.out)
      obtain ⟨ix, hxx⟩ : ∃ i, i = lrIx a0_0 a0_1 xa0_2 x a2 := ⟨_, rfl⟩
      rw [← hxx]
      have HX := Lib.hid hxx.symm
      have HXN := Lib.hid (show x < xa0_2.length by omega)
      clear h hi hxx hx9 hh hp0 hc SL hL hlen
      subst hx0
      go_enter Try.func7, Try.ntmps7
      go_wp2_with (first | (go_at_call 26; refine (l11Cell_t w.heap.size a0_0 a0_1 _ la0_2 ca0_2 xa0_2 (x : Int) _ ha0_2 ⟨by simp, by simp, by simp⟩ ((RA.out.below (by repeat (first | assumption | exact Below.refl _ _ | (refine Below.setCell ?_ (by first | omega | (simp; done) | (simp; omega)) _) | apply below_drewN | apply Below.drew | (refine Below.alloc ?_ (by first | omega | (simp; done) | (simp; omega)) _)))).mono (by first | omega | (simp; done) | (simp; omega))) 0 HC.out).mono ?_; rintro e1 w1 ⟨rfl, m1, rfl⟩) | (go_at_call 27; first | (refine (in_t _ _ _ _ (by omega)).mono ?_; rintro e w' ⟨rfl, rfl⟩) | (refine (in_f _ _ _ _ (by omega)).mono ?_; rintro e w' ⟨rfl, rfl⟩)) | (go_at_call 29; (try rw [HX0.out]); refine (l11Depths_t w.heap.size a0_0 a0_1 _ la0_2 ca0_2 xa0_2 x (2000) _ H.out HY.out ((RA.out.below (by repeat (first | assumption | exact Below.refl _ _ | (refine Below.setCell ?_ (by first | omega | (simp; done) | (simp; omega)) _) | apply below_drewN | apply Below.drew | (refine Below.alloc ?_ (by first | omega | (simp; done) | (simp; omega)) _)))).mono (by first | omega | (simp; done) | (simp; omega))) hx ⟨by simp, by simp, by simp⟩ (by first | omega | (simp; done) | (simp; omega)) L HL.out).mono ?_; rintro e2 W2 ⟨B2, d2', rfl, b2, x2⟩; have x9 := x2.lower (show w.heap.size ≤ _ by first | omega | (simp; done) | (simp; omega))) | (go_at_call 28; refine (spec_sumD _ la0_2 _ L _ (by omega) x9.rd HBL.out).mono ?_; rintro e3 W3 ⟨rfl, rfl⟩))
      have Y0 : Below w.heap.size w W2 := (by repeat (first | assumption | exact Below.refl _ _ | (refine Below.trans ?_ (b2.mono (by first | omega | (simp; done) | (simp; omega)))) | (refine Below.setCell ?_ (by first | omega | (simp; done) | (simp; omega)) _) | apply below_drewN | apply Below.drew | (refine Below.alloc ?_ (by first | omega | (simp; done) | (simp; omega)) _)))
      have G0 : w.heap.size < W2.heap.size := (by have := b2.size; simp at this; omega)
      have K0 : LandAt W2 w.heap.size a0_0 a0_1 (some ⟨ab, o, none⟩) la0_2 ca0_2 := ⟨(b2.cell (p := ⟨w.heap.size, 0, none⟩) (by first | omega | (simp; done) | (simp; omega))).trans (by simp), (b2.cell (p := ⟨w.heap.size, 1, none⟩) (by first | omega | (simp; done) | (simp; omega))).trans (by simp), (b2.cell (p := ⟨w.heap.size, 2, none⟩) (by first | omega | (simp; done) | (simp; omega))).trans (by simp)⟩
      go_loopw [9, 10, 11] (fun lo hi _ wr => ∃ p q : Nat, p < q ∧ q ≤ 4000 ∧ lo = .int .i64 (-2000 + (p : Int)) ∧ hi = .int .i64 (-2000 + (q : Int)) ∧ Hid (¬ enP a0_0 a0_1 xa0_2 x a2 p ∧ enP a0_0 a0_1 xa0_2 x a2 q) ∧ Below w.heap.size w wr ∧ w.heap.size < wr.heap.size ∧ LandAt wr w.heap.size a0_0 a0_1 (some ⟨ab, o, none⟩) la0_2 ca0_2) (fun lo hi _ _ => (intOf hi - intOf lo).toNat)
      case atStart => exact ⟨p0, 4000, by omega, by omega, by simp, by simp, Lib.hid (show ¬ enP a0_0 a0_1 xa0_2 x a2 p0 ∧ enP a0_0 a0_1 xa0_2 x a2 4000 from ⟨HLO.out, HR.out⟩), Y0, G0, K0⟩
      case round =>
        obtain ⟨p, q, hpq, hq, rfl, rfl, hr, hB, hG, hK⟩ := hrel
        obtain ⟨wo, rfl⟩ : ∃ wo, wo = wr := ⟨_, rfl⟩
        by_cases hlt : p + 1 < q
        · obtain ⟨m, hm⟩ : ∃ m, m = (p + q) / 2 := ⟨_, rfl⟩
          have hm1 : p < m := by omega
          have hm2 : m < q := by omega
          have HE := Lib.hid (show (-2000 + (p : Int) + (-2000 + (q : Int))) / 2 = -2000 + (m : Int) by omega)
          have HYM := Lib.hid (show lvl (-2000 + (m : Int)) by unfold lvl; omega)
          clear hm
          obtain ⟨M, hM⟩ : ∃ L, L = depN (-2000 + (m : Int)) xa0_2 (wetB a0_0 a0_1 (-2000 + (m : Int)) xa0_2 la0_2 x) la0_2 := ⟨_, rfl⟩
          have HM := Lib.hid hM
          have HBM := Lib.hid (show ∀ j, j < la0_2 → -5000 ≤ M.getD j 0 ∧ M.getD j 0 ≤ 5000 from fun j hj => by rw [hM, depN_at (-2000 + (m : Int)) xa0_2 _ la0_2 j hj]; exact depK_bd H.out HYM.out _ j (by omega))
          have SM : fvol a0_0 a0_1 xa0_2 la0_2 x (-2000 + (m : Int)) = sumN M la0_2 := by rw [hM]; rfl
          by_cases hp : enP a0_0 a0_1 xa0_2 x a2 m
          · have HP := Lib.hid hp
            have ht : a2 ≤ sumN M la0_2 := by unfold enP at hp; rw [hln, SM] at hp; exact hp
            clear hp SM hM
            go_wp2_with (first | (go_at_call 30; refine (floor2_t _ _ _ (by omega) (by omega) HE.out).mono ?_; rintro e w' ⟨rfl, rfl⟩) | (go_at_call 29; (try rw [HX0.out]); refine (l11Depths_t w.heap.size a0_0 a0_1 _ la0_2 ca0_2 xa0_2 x (-2000 + (m : Int)) _ H.out HYM.out ((RA.out.below hB).mono (by first | omega | (simp; done) | (simp; omega))) hx hK (by first | omega | (simp; done) | (simp; omega)) M HM.out).mono ?_; rintro e2 W2 ⟨B2, d2', rfl, b2, x2⟩; have x9 := x2.lower (show w.heap.size ≤ _ by first | omega | (simp; done) | (simp; omega))) | (go_at_call 28; refine (spec_sumD _ la0_2 _ M _ (by omega) x9.rd HBM.out).mono ?_; rintro e3 W3 ⟨rfl, rfl⟩))
            go_round
            case rel => exact ⟨p, m, by omega, by omega, rfl, rfl, Lib.hid (show ¬ enP a0_0 a0_1 xa0_2 x a2 p ∧ enP a0_0 a0_1 xa0_2 x a2 m from ⟨hr.out.1, HP.out⟩), hB.trans (b2.mono hB.size), (by have := b2.size; omega), ⟨(b2.cell (p := ⟨w.heap.size, 0, none⟩) hG).trans hK.c0, (b2.cell (p := ⟨w.heap.size, 1, none⟩) hG).trans hK.c1, (b2.cell (p := ⟨w.heap.size, 2, none⟩) hG).trans hK.c2⟩⟩
            case measure => simp [intOf]; omega
          · have HP := Lib.hid hp
            have ht : ¬ a2 ≤ sumN M la0_2 := by unfold enP at hp; rw [hln, SM] at hp; exact hp
            clear hp SM hM
            go_wp2_with (first | (go_at_call 30; refine (floor2_t _ _ _ (by omega) (by omega) HE.out).mono ?_; rintro e w' ⟨rfl, rfl⟩) | (go_at_call 29; (try rw [HX0.out]); refine (l11Depths_t w.heap.size a0_0 a0_1 _ la0_2 ca0_2 xa0_2 x (-2000 + (m : Int)) _ H.out HYM.out ((RA.out.below hB).mono (by first | omega | (simp; done) | (simp; omega))) hx hK (by first | omega | (simp; done) | (simp; omega)) M HM.out).mono ?_; rintro e2 W2 ⟨B2, d2', rfl, b2, x2⟩; have x9 := x2.lower (show w.heap.size ≤ _ by first | omega | (simp; done) | (simp; omega))) | (go_at_call 28; refine (spec_sumD _ la0_2 _ M _ (by omega) x9.rd HBM.out).mono ?_; rintro e3 W3 ⟨rfl, rfl⟩))
            go_round
            case rel => exact ⟨m, q, by omega, by omega, rfl, rfl, Lib.hid (show ¬ enP a0_0 a0_1 xa0_2 x a2 m ∧ enP a0_0 a0_1 xa0_2 x a2 q from ⟨HP.out, hr.out.2⟩), hB.trans (b2.mono hB.size), (by have := b2.size; omega), ⟨(b2.cell (p := ⟨w.heap.size, 0, none⟩) hG).trans hK.c0, (b2.cell (p := ⟨w.heap.size, 1, none⟩) hG).trans hK.c1, (b2.cell (p := ⟨w.heap.size, 2, none⟩) hG).trans hK.c2⟩⟩
            case measure => simp [intOf]; omega
        · obtain rfl : q = p + 1 := by omega
          have HE := Lib.hid (show lrIx a0_0 a0_1 xa0_2 x a2 = p + 1 from noEn_eq H.out HXN.out (by omega) (fun k hk hrk => hr.out.1 (en_mono H.out HXN.out (by omega) hrk)) (fun _ => hr.out.2))
          obtain rfl : ix = p + 1 := by rw [← HX.out, HE.out]
          go_wp2
          go_ret2
          exact ⟨rfl, hB⟩
    · rw [(lr_full h hi).1, (lr_full h hi).2]
      rw [show a1.toNat = x by omega] at hi
      have hv : sumN L la0_2 < a2 := by
        have := fun e => hi ((lr_iff h.1 (by omega)).2 e)
        unfold enP at this
        rw [hln] at this
        rw [← SL]
        exact Int.not_le.1 this
      clear h hi hx9 hh hp0 hc SL hL hlen
      subst hx0
      go_enter Try.func7, Try.ntmps7
      go_wp2_with (first | (go_at_call 26; refine (l11Cell_t w.heap.size a0_0 a0_1 _ la0_2 ca0_2 xa0_2 (x : Int) _ ha0_2 ⟨by simp, by simp, by simp⟩ ((RA.out.below (by repeat (first | assumption | exact Below.refl _ _ | (refine Below.setCell ?_ (by first | omega | (simp; done) | (simp; omega)) _) | apply below_drewN | apply Below.drew | (refine Below.alloc ?_ (by first | omega | (simp; done) | (simp; omega)) _)))).mono (by first | omega | (simp; done) | (simp; omega))) 0 HC.out).mono ?_; rintro e1 w1 ⟨rfl, m1, rfl⟩) | (go_at_call 27; first | (refine (in_t _ _ _ _ (by omega)).mono ?_; rintro e w' ⟨rfl, rfl⟩) | (refine (in_f _ _ _ _ (by omega)).mono ?_; rintro e w' ⟨rfl, rfl⟩)) | (go_at_call 29; (try rw [HX0.out]); refine (l11Depths_t w.heap.size a0_0 a0_1 _ la0_2 ca0_2 xa0_2 x (2000) _ H.out HY.out ((RA.out.below (by repeat (first | assumption | exact Below.refl _ _ | (refine Below.setCell ?_ (by first | omega | (simp; done) | (simp; omega)) _) | apply below_drewN | apply Below.drew | (refine Below.alloc ?_ (by first | omega | (simp; done) | (simp; omega)) _)))).mono (by first | omega | (simp; done) | (simp; omega))) hx ⟨by simp, by simp, by simp⟩ (by first | omega | (simp; done) | (simp; omega)) L HL.out).mono ?_; rintro e2 W2 ⟨B2, d2', rfl, b2, x2⟩; have x9 := x2.lower (show w.heap.size ≤ _ by first | omega | (simp; done) | (simp; omega))) | (go_at_call 28; refine (spec_sumD _ la0_2 _ L _ (by omega) x9.rd HBL.out).mono ?_; rintro e3 W3 ⟨rfl, rfl⟩))
      have Y0 : Below w.heap.size w W2 := (by repeat (first | assumption | exact Below.refl _ _ | (refine Below.trans ?_ (b2.mono (by first | omega | (simp; done) | (simp; omega)))) | (refine Below.setCell ?_ (by first | omega | (simp; done) | (simp; omega)) _) | apply below_drewN | apply Below.drew | (refine Below.alloc ?_ (by first | omega | (simp; done) | (simp; omega)) _)))
      go_ret2
      exact ⟨rfl, Y0⟩
  · rw [(lr_bad h).1, (lr_bad h).2]
    by_cases hv : LandOk a0_0 a0_1 xa0_2 ∧ inC xa0_2.length a1
    · have hy : a2 < 1 ∨ 1000000000 < a2 := by
        by_cases hy : 1 ≤ a2 ∧ a2 ≤ 1000000000
        · exact absurd ⟨hv.1, hv.2, hy⟩ h
        · omega
      rw [lcode_no hv.1 (fun e => h ⟨hv.1, e⟩)]
      have HC := Lib.hid (show lcode a0_0 a0_1 xa0_2 (inC la0_2 a1) = 0 by rw [← hln]; exact lcode_ok hv.1 hv.2)
      clear h hv
      go_enter Try.func7, Try.ntmps7
      go_wp2_with (first | (go_at_call 26; refine (l11Cell_t w.heap.size a0_0 a0_1 _ la0_2 ca0_2 xa0_2 a1 _ ha0_2 ⟨by simp, by simp, by simp⟩ ((RA.out.below (by repeat (first | assumption | exact Below.refl _ _ | (refine Below.setCell ?_ (by first | omega | (simp; done) | (simp; omega)) _) | apply below_drewN | apply Below.drew | (refine Below.alloc ?_ (by first | omega | (simp; done) | (simp; omega)) _)))).mono (by first | omega | (simp; done) | (simp; omega))) 0 HC.out).mono ?_; rintro e1 w1 ⟨rfl, m1, rfl⟩) | (go_at_call 27; first | (refine (in_t _ _ _ _ (by omega)).mono ?_; rintro e w' ⟨rfl, rfl⟩) | (refine (in_f _ _ _ _ (by omega)).mono ?_; rintro e w' ⟨rfl, rfl⟩)))
      go_ret2
      exact ⟨rfl, (by repeat (first | assumption | exact Below.refl _ _ | (refine Below.setCell ?_ (by first | omega | (simp; done) | (simp; omega)) _) | apply below_drewN | apply Below.drew | (refine Below.alloc ?_ (by first | omega | (simp; done) | (simp; omega)) _)))⟩
    · have e1 : lcode a0_0 a0_1 xa0_2 (lrP xa0_2.length a1 a2) = lcode a0_0 a0_1 xa0_2 (inC xa0_2.length a1) := lcode_and hv
      have e2 := lcode_ne hv
      rw [e1]
      rw [hln] at e2 ⊢
      clear h hv e1
      obtain ⟨C, hC⟩ : ∃ C, lcode a0_0 a0_1 xa0_2 (inC la0_2 a1) = C := ⟨_, rfl⟩
      rw [hC] at e2 ⊢
      have e3 : (C == 0) = false := by simpa using e2
      have HC := Lib.hid hC
      clear hC
      go_enter Try.func7, Try.ntmps7
      go_wp2_with (first | (go_at_call 26; refine (l11Cell_t w.heap.size a0_0 a0_1 _ la0_2 ca0_2 xa0_2 a1 _ ha0_2 ⟨by simp, by simp, by simp⟩ ((RA.out.below (by repeat (first | assumption | exact Below.refl _ _ | (refine Below.setCell ?_ (by first | omega | (simp; done) | (simp; omega)) _) | apply below_drewN | apply Below.drew | (refine Below.alloc ?_ (by first | omega | (simp; done) | (simp; omega)) _)))).mono (by first | omega | (simp; done) | (simp; omega))) C HC.out).mono ?_; rintro e1 w1 ⟨rfl, m1, rfl⟩))
      go_ret2
      exact ⟨rfl, (by repeat (first | assumption | exact Below.refl _ _ | (refine Below.setCell ?_ (by first | omega | (simp; done) | (simp; omega)) _) | apply below_drewN | apply Below.drew | (refine Below.alloc ?_ (by first | omega | (simp; done) | (simp; omega)) _)))⟩

end Go.Proofs.Ythnioohiceohkaa
