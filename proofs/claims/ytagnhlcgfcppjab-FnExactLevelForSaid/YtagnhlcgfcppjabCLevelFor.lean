import Derived.Test.YtagnhlcgfcppjabLandB
import Derived.Test.YtagnhlcgfcppjabLeastL
namespace Go.Proofs.Ytagnhlcgfcppjab
open Go.RowKit

/-- at the h-th level there is room for the water -/
def roomP (xs : List Int) (v : Int) (h : Nat) : Prop := v ≤ vol (-2000 + (h : Int)) xs xs.length
instance (xs : List Int) (v : Int) (h : Nat) : Decidable (roomP xs v h) := by unfold roomP; exact inferInstance
theorem room_mono {xs : List Int} {v : Int} {h k : Nat} (hk : h ≤ k) (hr : roomP xs v h) : roomP xs v k := Int.le_trans hr (vol_mono xs _ _ (by omega) _)
/-- how many of the first n levels have no room -/
def noRoom (xs : List Int) (v : Int) : Nat → Nat
  | 0 => 0
  | n + 1 => noRoom xs v n + if roomP xs v n then 0 else 1
theorem noRoom_lo {xs : List Int} {v : Int} {i : Nat} (h : ∀ k, k < i → ¬ roomP xs v k) : noRoom xs v i = i := by
  induction i with
  | zero => rfl
  | succ i ih => rw [noRoom, ih (fun k hk => h k (by omega)), if_neg (h i (by omega))]
theorem noRoom_hi {xs : List Int} {v : Int} {i : Nat} (n : Nat) (h : roomP xs v i) : noRoom xs v (i + n) = noRoom xs v i := by
  induction n with
  | zero => rfl
  | succ n ih =>
    show noRoom xs v (i + n) + (if roomP xs v (i + n) then 0 else 1) = _
    rw [ih, if_pos (room_mono (Nat.le_add_right i n) h)]
    rfl
theorem noRoom_eq {xs : List Int} {v : Int} {i n : Nat} (hi : i ≤ n) (h1 : ∀ k, k < i → ¬ roomP xs v k) (h2 : i < n → roomP xs v i) : noRoom xs v n = i := by
  by_cases h : i < n
  · have := noRoom_hi (xs := xs) (v := v) (i := i) (n - i) (h2 h)
    rw [show i + (n - i) = n by omega] at this
    rw [this]
    exact noRoom_lo h1
  · rw [show n = i by omega]
    exact noRoom_lo h1

def lfOk (v : Int) : Prop := 0 ≤ v ∧ v ≤ 1000000000
instance (v : Int) : Decidable (lfOk v) := by unfold lfOk; exact inferInstance
def lfIx (xs : List Int) (v : Int) : Nat := noRoom xs v 4001
def r0_LevelFor (a0_0 : Int) (a0_1 : Int) (xa0_2 : List Int) (a1 : Int) : Int := if (LandOk a0_0 a0_1 xa0_2 ∧ lfOk a1) ∧ lfIx xa0_2 a1 < 4001 then -2000 + (lfIx xa0_2 a1 : Int) else 0
def r1_LevelFor (a0_0 : Int) (a0_1 : Int) (xa0_2 : List Int) (a1 : Int) : Int := if LandOk a0_0 a0_1 xa0_2 ∧ lfOk a1 then (if lfIx xa0_2 a1 < 4001 then 0 else 5) else lcode a0_0 a0_1 xa0_2 (lfOk a1)

theorem leastLF_t (r c : Int) (A : Option Addr) (n k : Nat) (xs : List Int) (v : Int) (w : World) (ha : Rd w w.heap.size A n xs) (hl : LandOk r c xs) :
    Calls Try.prog 69 #[.iface 27 (.agg #[.int .i64 r, .int .i64 c, .slice A n k]), .int .i64 (-2000), .int .i64 2000, .int .i64 v] w fun e w' => e = .returned (.int .i64 (-2000 + (lfIx xs v : Int))) ∧ Below w.heap.size w w' := by
  have hn := ha.1
  refine (leastW_t r c A n k xs (-2000) v 4001 w ha hl (by omega) (by omega) (by omega)).mono ?_
  rintro e w' ⟨p, rfl, b, q0, q1, q2⟩
  rw [← hn] at q1 q2
  rw [show lfIx xs v = p from noRoom_eq q0 q1 q2]
  exact ⟨rfl, b⟩

theorem lf_ok {r c : Int} {xs : List Int} {v : Int} (h : LandOk r c xs ∧ lfOk v) (hi : lfIx xs v < 4001) : r0_LevelFor r c xs v = -2000 + (lfIx xs v : Int) ∧ r1_LevelFor r c xs v = 0 := ⟨if_pos ⟨h, hi⟩, by unfold r1_LevelFor; rw [if_pos h, if_pos hi]⟩
theorem lf_full {r c : Int} {xs : List Int} {v : Int} (h : LandOk r c xs ∧ lfOk v) (hi : ¬ lfIx xs v < 4001) : r0_LevelFor r c xs v = 0 ∧ r1_LevelFor r c xs v = 5 := ⟨if_neg (fun h => hi h.2), by unfold r1_LevelFor; rw [if_pos h, if_neg hi]⟩
theorem lf_bad {r c : Int} {xs : List Int} {v : Int} (h : ¬ (LandOk r c xs ∧ lfOk v)) : r0_LevelFor r c xs v = 0 ∧ r1_LevelFor r c xs v = lcode r c xs (lfOk v) := ⟨if_neg (fun e => h e.1), if_neg h⟩
theorem noRoom_le (xs : List Int) (v : Int) (n : Nat) : noRoom xs v n ≤ n := by
  induction n with
  | zero => exact Nat.le_refl _
  | succ n ih => rw [noRoom]; split <;> omega

set_option maxRecDepth 100000 in
set_option maxHeartbeats 3200000 in
theorem implC_LevelFor (a0_0 : Int) (a0_1 : Int) (a0_2 : Option Addr) (la0_2 ca0_2 : Nat) (xa0_2 : List Int) (a1 : Int) (w : World) (ha0_0 : (Lit.int .i64 a0_0).wf = true) (ha0_1 : (Lit.int .i64 a0_1).wf = true) (ha0_2 : la0_2 ≤ 1048576) (ra0_2 : Rd w w.heap.size a0_2 la0_2 xa0_2) (fa0_2 : Wf xa0_2) (ha1 : (Lit.int .i64 a1).wf = true) :
    Calls Try.prog 36 #[.agg #[.int .i64 a0_0, .int .i64 a0_1, .slice a0_2 la0_2 ca0_2], .int .i64 a1] w fun e w' => e = .returned (.tuple #[.int .i64 (r0_LevelFor a0_0 a0_1 xa0_2 a1), .int .i64 (r1_LevelFor a0_0 a0_1 xa0_2 a1)]) ∧ Below w.heap.size w w' := by
  have hln := ra0_2.1
  have RA := Lib.hid ra0_2
  clear ra0_2
  obtain ⟨L, hL⟩ : ∃ L, decide (0 ≤ a1 ∧ a1 ≤ 1000000000) = L := ⟨_, rfl⟩
  have EL := Lib.hid hL
  have E3 := Lib.hid (show LandOk a0_0 a0_1 xa0_2 → L = decide (lfOk a1) from fun _ => hL.symm)
  clear hL
  by_cases h : LandOk a0_0 a0_1 xa0_2 ∧ lfOk a1
  · have EC := Lib.hid (lcode_ok h.1 h.2)
    have hix := noRoom_le xa0_2 a1 4001
    have H := Lib.hid h
    by_cases hi : lfIx xa0_2 a1 < 4001
    · rw [(lf_ok h hi).1, (lf_ok h hi).2]
      clear h
      obtain ⟨ix, hx⟩ : ∃ i, i = lfIx xa0_2 a1 := ⟨_, rfl⟩
      rw [← hx] at hi
      rw [← hx]
      have HX := Lib.hid hx.symm
      clear hx hix
      have e0 : ¬ 2000 < -2000 + (ix : Int) := by omega
      go_enter Try.func36, Try.ntmps36
      go_wp2_with fail
      go_region_held3 (fun w' => w'.cell? ⟨w.heap.size, 0, none⟩ = some (.int .i64 a0_0) ∧ w'.cell? ⟨w.heap.size, 1, none⟩ = some (.int .i64 a0_1) ∧ w'.cell? ⟨w.heap.size, 2, none⟩ = some (.slice a0_2 la0_2 ca0_2)) (go_keep) (first | (go_at_call 51; refine (within_any _ _ _ _).mono ?_; rintro e w' ⟨rfl, rfl⟩; rw [EL.out]) | (go_at_call 54; refine (landCode_t _ _ _ _ _ xa0_2 _ (lfOk a1) _ ha0_2 ((RA.out.below (by repeat (first | assumption | exact Below.refl _ _ | (refine Below.setCell ?_ (by first | omega | (simp; done) | (simp; omega)) _) | apply below_drewN | apply Below.drew | (refine Below.alloc ?_ (by first | omega | (simp; done) | (simp; omega)) _)))).mono (by first | omega | (simp; done) | (simp; omega))) E3.out).mono ?_; rintro e2 W2 ⟨rfl, b2⟩; rw [EC.out]; obtain ⟨k1, f1⟩ := bcell b2; have s2 : w.heap.size < W2.heap.size := (by have := b2.size; simp at this; omega); have z0 : W2.cell? ⟨w.heap.size, 0, none⟩ = some (.int .i64 a0_0) := (by rw [k1 _ _ (by first | omega | (simp; done) | (simp; omega))]; first | (simp; done) | go_simp); have zf0 : W2.frozen? ⟨w.heap.size, 0, none⟩ = false := (by rw [f1 _ _ (by first | omega | (simp; done) | (simp; omega))]; first | (simp; done) | go_simp); have z1 : W2.cell? ⟨w.heap.size, 1, none⟩ = some (.int .i64 a0_1) := (by rw [k1 _ _ (by first | omega | (simp; done) | (simp; omega))]; first | (simp; done) | go_simp); have zf1 : W2.frozen? ⟨w.heap.size, 1, none⟩ = false := (by rw [f1 _ _ (by first | omega | (simp; done) | (simp; omega))]; first | (simp; done) | go_simp); have z2 : W2.cell? ⟨w.heap.size, 2, none⟩ = some (.slice a0_2 la0_2 ca0_2) := (by rw [k1 _ _ (by first | omega | (simp; done) | (simp; omega))]; first | (simp; done) | go_simp); have zf2 : W2.frozen? ⟨w.heap.size, 2, none⟩ = false := (by rw [f1 _ _ (by first | omega | (simp; done) | (simp; omega))]; first | (simp; done) | go_simp); clear k1 f1; have d2 : Below w.heap.size w W2 := (by repeat (first | assumption | exact Below.refl _ _ | (refine Below.trans ?_ (b2.mono (by first | omega | (simp; done) | (simp; omega)))) | (refine Below.setCell ?_ (by first | omega | (simp; done) | (simp; omega)) _) | apply below_drewN | apply Below.drew | (refine Below.alloc ?_ (by first | omega | (simp; done) | (simp; omega)) _)))))
      go_wp2_with (go_at_call 69; refine (leastLF_t _ _ _ _ _ xa0_2 _ _ ((RA.out.below (by repeat (first | assumption | exact Below.refl _ _ | (refine Below.trans ?_ (d2.mono (by first | omega | (simp; done) | (simp; omega)))) | (refine Below.setCell ?_ (by first | omega | (simp; done) | (simp; omega)) _) | apply below_drewN | apply Below.drew | (refine Below.alloc ?_ (by first | omega | (simp; done) | (simp; omega)) _)))).mono (by first | omega | (simp; done) | (simp; omega))) H.out.1).mono ?_; rintro e3 W3 ⟨rfl, b3⟩; rw [HX.out])
      go_ret2
      exact ⟨rfl, (by repeat (first | assumption | exact Below.refl _ _ | (refine Below.trans ?_ (b3.mono (by first | omega | (simp; done) | (simp; omega)))) | (refine Below.trans ?_ (d2.mono (by first | omega | (simp; done) | (simp; omega)))) | (refine Below.setCell ?_ (by first | omega | (simp; done) | (simp; omega)) _) | apply below_drewN | apply Below.drew | (refine Below.alloc ?_ (by first | omega | (simp; done) | (simp; omega)) _)))⟩
    · rw [(lf_full h hi).1, (lf_full h hi).2]
      clear h
      have HX := Lib.hid (show (lfIx xa0_2 a1 : Int) = 4001 from by unfold lfIx at hi ⊢; omega)
      clear hi hix
      go_enter Try.func36, Try.ntmps36
      go_wp2_with fail
      go_region_held3 (fun w' => w'.cell? ⟨w.heap.size, 0, none⟩ = some (.int .i64 a0_0) ∧ w'.cell? ⟨w.heap.size, 1, none⟩ = some (.int .i64 a0_1) ∧ w'.cell? ⟨w.heap.size, 2, none⟩ = some (.slice a0_2 la0_2 ca0_2)) (go_keep) (first | (go_at_call 51; refine (within_any _ _ _ _).mono ?_; rintro e w' ⟨rfl, rfl⟩; rw [EL.out]) | (go_at_call 54; refine (landCode_t _ _ _ _ _ xa0_2 _ (lfOk a1) _ ha0_2 ((RA.out.below (by repeat (first | assumption | exact Below.refl _ _ | (refine Below.setCell ?_ (by first | omega | (simp; done) | (simp; omega)) _) | apply below_drewN | apply Below.drew | (refine Below.alloc ?_ (by first | omega | (simp; done) | (simp; omega)) _)))).mono (by first | omega | (simp; done) | (simp; omega))) E3.out).mono ?_; rintro e2 W2 ⟨rfl, b2⟩; rw [EC.out]; obtain ⟨k1, f1⟩ := bcell b2; have s2 : w.heap.size < W2.heap.size := (by have := b2.size; simp at this; omega); have z0 : W2.cell? ⟨w.heap.size, 0, none⟩ = some (.int .i64 a0_0) := (by rw [k1 _ _ (by first | omega | (simp; done) | (simp; omega))]; first | (simp; done) | go_simp); have zf0 : W2.frozen? ⟨w.heap.size, 0, none⟩ = false := (by rw [f1 _ _ (by first | omega | (simp; done) | (simp; omega))]; first | (simp; done) | go_simp); have z1 : W2.cell? ⟨w.heap.size, 1, none⟩ = some (.int .i64 a0_1) := (by rw [k1 _ _ (by first | omega | (simp; done) | (simp; omega))]; first | (simp; done) | go_simp); have zf1 : W2.frozen? ⟨w.heap.size, 1, none⟩ = false := (by rw [f1 _ _ (by first | omega | (simp; done) | (simp; omega))]; first | (simp; done) | go_simp); have z2 : W2.cell? ⟨w.heap.size, 2, none⟩ = some (.slice a0_2 la0_2 ca0_2) := (by rw [k1 _ _ (by first | omega | (simp; done) | (simp; omega))]; first | (simp; done) | go_simp); have zf2 : W2.frozen? ⟨w.heap.size, 2, none⟩ = false := (by rw [f1 _ _ (by first | omega | (simp; done) | (simp; omega))]; first | (simp; done) | go_simp); clear k1 f1; have d2 : Below w.heap.size w W2 := (by repeat (first | assumption | exact Below.refl _ _ | (refine Below.trans ?_ (b2.mono (by first | omega | (simp; done) | (simp; omega)))) | (refine Below.setCell ?_ (by first | omega | (simp; done) | (simp; omega)) _) | apply below_drewN | apply Below.drew | (refine Below.alloc ?_ (by first | omega | (simp; done) | (simp; omega)) _)))))
      go_wp2_with (go_at_call 69; refine (leastLF_t _ _ _ _ _ xa0_2 _ _ ((RA.out.below (by repeat (first | assumption | exact Below.refl _ _ | (refine Below.trans ?_ (d2.mono (by first | omega | (simp; done) | (simp; omega)))) | (refine Below.setCell ?_ (by first | omega | (simp; done) | (simp; omega)) _) | apply below_drewN | apply Below.drew | (refine Below.alloc ?_ (by first | omega | (simp; done) | (simp; omega)) _)))).mono (by first | omega | (simp; done) | (simp; omega))) H.out.1).mono ?_; rintro e3 W3 ⟨rfl, b3⟩; rw [HX.out])
      go_ret2
      exact ⟨rfl, (by repeat (first | assumption | exact Below.refl _ _ | (refine Below.trans ?_ (b3.mono (by first | omega | (simp; done) | (simp; omega)))) | (refine Below.trans ?_ (d2.mono (by first | omega | (simp; done) | (simp; omega)))) | (refine Below.setCell ?_ (by first | omega | (simp; done) | (simp; omega)) _) | apply below_drewN | apply Below.drew | (refine Below.alloc ?_ (by first | omega | (simp; done) | (simp; omega)) _)))⟩
  · rw [(lf_bad h).1, (lf_bad h).2]
    have e2 := lcode_ne h
    clear h hln
    generalize hC : lcode a0_0 a0_1 xa0_2 (lfOk a1) = C at *
    have EC := Lib.hid hC
    clear hC
    go_enter Try.func36, Try.ntmps36
    go_wp2_with fail
    go_region_held3 (fun w' => w'.cell? ⟨w.heap.size, 0, none⟩ = some (.int .i64 a0_0) ∧ w'.cell? ⟨w.heap.size, 1, none⟩ = some (.int .i64 a0_1) ∧ w'.cell? ⟨w.heap.size, 2, none⟩ = some (.slice a0_2 la0_2 ca0_2)) (go_keep) (first | (go_at_call 51; refine (within_any _ _ _ _).mono ?_; rintro e w' ⟨rfl, rfl⟩; rw [EL.out]) | (go_at_call 54; refine (landCode_t _ _ _ _ _ xa0_2 _ (lfOk a1) _ ha0_2 ((RA.out.below (by repeat (first | assumption | exact Below.refl _ _ | (refine Below.setCell ?_ (by first | omega | (simp; done) | (simp; omega)) _) | apply below_drewN | apply Below.drew | (refine Below.alloc ?_ (by first | omega | (simp; done) | (simp; omega)) _)))).mono (by first | omega | (simp; done) | (simp; omega))) E3.out).mono ?_; rintro e2 W2 ⟨rfl, b2⟩; rw [EC.out]; obtain ⟨k1, f1⟩ := bcell b2; have s2 : w.heap.size < W2.heap.size := (by have := b2.size; simp at this; omega); have z0 : W2.cell? ⟨w.heap.size, 0, none⟩ = some (.int .i64 a0_0) := (by rw [k1 _ _ (by first | omega | (simp; done) | (simp; omega))]; first | (simp; done) | go_simp); have zf0 : W2.frozen? ⟨w.heap.size, 0, none⟩ = false := (by rw [f1 _ _ (by first | omega | (simp; done) | (simp; omega))]; first | (simp; done) | go_simp); have z1 : W2.cell? ⟨w.heap.size, 1, none⟩ = some (.int .i64 a0_1) := (by rw [k1 _ _ (by first | omega | (simp; done) | (simp; omega))]; first | (simp; done) | go_simp); have zf1 : W2.frozen? ⟨w.heap.size, 1, none⟩ = false := (by rw [f1 _ _ (by first | omega | (simp; done) | (simp; omega))]; first | (simp; done) | go_simp); have z2 : W2.cell? ⟨w.heap.size, 2, none⟩ = some (.slice a0_2 la0_2 ca0_2) := (by rw [k1 _ _ (by first | omega | (simp; done) | (simp; omega))]; first | (simp; done) | go_simp); have zf2 : W2.frozen? ⟨w.heap.size, 2, none⟩ = false := (by rw [f1 _ _ (by first | omega | (simp; done) | (simp; omega))]; first | (simp; done) | go_simp); clear k1 f1; have d2 : Below w.heap.size w W2 := (by repeat (first | assumption | exact Below.refl _ _ | (refine Below.trans ?_ (b2.mono (by first | omega | (simp; done) | (simp; omega)))) | (refine Below.setCell ?_ (by first | omega | (simp; done) | (simp; omega)) _) | apply below_drewN | apply Below.drew | (refine Below.alloc ?_ (by first | omega | (simp; done) | (simp; omega)) _)))))
    go_wp2
    go_ret2
    exact ⟨rfl, d2⟩

set_option maxHeartbeats 800000 in
theorem floor2_t (a m : Int) (w : World) (h1 : -10000 ≤ a) (h2 : a ≤ 10000) (hm : a / 2 = m) :
    Calls Try.prog 68 #[.int .i64 a, .int .i64 2] w fun e w' => e = .returned (.int .i64 m) ∧ w = w' := by
  have HM := Lib.hid hm
  clear hm
  by_cases h : 0 ≤ a
  · have h3 : 0 ≤ a % 2 := by omega
    go_enter Try.func68, Try.ntmps68
    go_wp2
    go_ret
    exact ⟨ret_int HM.out, rfl⟩
  · have q1 : a.tdiv 2 = -((-a) / 2) := by rw [show a = -(-a) by omega, Int.neg_tdiv, Int.tdiv_eq_ediv_of_nonneg (by omega)]; simp
    have q2 : a.tmod 2 = -((-a) % 2) := by rw [show a = -(-a) by omega, Int.neg_tmod, Int.tmod_eq_emod_of_nonneg (by omega)]; simp
    have Q1 := Lib.hid q1
    have b1 : -5000 ≤ a.tdiv 2 := by omega
    have b2 : a.tdiv 2 ≤ 5000 := by omega
    by_cases ho : (-a) % 2 = 1
    · have b3 : a.tmod 2 < 0 := by omega
      have HE := Lib.hid (show a.tdiv 2 - 1 = m by have := HM.out; omega)
      clear q1 q2 ho
      go_enter Try.func68, Try.ntmps68
      go_wp2
      go_ret
      exact ⟨ret_int HE.out, rfl⟩
    · have b3 : ¬ a.tmod 2 < 0 := by omega
      have HE := Lib.hid (show a.tdiv 2 = m by have := HM.out; omega)
      clear q1 q2 ho
      go_enter Try.func68, Try.ntmps68
      go_wp2
      go_ret
      exact ⟨ret_int HE.out, rfl⟩

theorem lf_iff (xs : List Int) (v : Int) : lfIx xs v < 4001 ↔ roomP xs v 4000 := by
  constructor
  · intro h
    by_cases hr : roomP xs v 4000
    · exact hr
    · have : noRoom xs v 4001 = 4001 := noRoom_lo (fun k hk hrk => hr (room_mono (by omega) hrk))
      unfold lfIx at h
      omega
  · intro h
    unfold lfIx
    show noRoom xs v 4000 + (if roomP xs v 4000 then 0 else 1) < 4001
    rw [if_pos h]
    have := noRoom_le xs v 4000
    omega

set_option maxRecDepth 100000 in
set_option maxHeartbeats 3200000 in
theorem specC_LevelFor (a0_0 : Int) (a0_1 : Int) (a0_2 : Option Addr) (la0_2 ca0_2 : Nat) (xa0_2 : List Int) (a1 : Int) (w : World) (ha0_0 : (Lit.int .i64 a0_0).wf = true) (ha0_1 : (Lit.int .i64 a0_1).wf = true) (ha0_2 : la0_2 ≤ 1048576) (ra0_2 : Rd w w.heap.size a0_2 la0_2 xa0_2) (fa0_2 : Wf xa0_2) (ha1 : (Lit.int .i64 a1).wf = true) :
    Calls Try.prog 35 #[.agg #[.int .i64 a0_0, .int .i64 a0_1, .slice a0_2 la0_2 ca0_2], .int .i64 a1] w fun e w' => e = .returned (.tuple #[.int .i64 (r0_LevelFor a0_0 a0_1 xa0_2 a1), .int .i64 (r1_LevelFor a0_0 a0_1 xa0_2 a1)]) ∧ Below w.heap.size w w' := by
  have hln := ra0_2.1
  have RA := Lib.hid ra0_2
  clear ra0_2
  by_cases h : LandOk a0_0 a0_1 xa0_2 ∧ lfOk a1
  · obtain ⟨g1, g2⟩ := h.2
    have H := Lib.hid h
    have HY := Lib.hid (show lvl 2000 from ⟨by omega, by omega⟩)
    by_cases hi : lfIx xa0_2 a1 < 4001
    · rw [(lf_ok h hi).1, (lf_ok h hi).2]
      have hv : ¬ vol 2000 xa0_2 la0_2 < a1 := by
        have := (lf_iff _ _).1 hi
        unfold roomP at this
        rw [hln] at this
        exact Int.not_lt.2 this
      have HR := Lib.hid ((lf_iff _ _).1 hi)
      clear h hi
      obtain ⟨ix, hx⟩ : ∃ i, i = lfIx xa0_2 a1 := ⟨_, rfl⟩
      rw [← hx]
      have HX := Lib.hid hx.symm
      clear hx
      go_enter Try.func35, Try.ntmps35
      go_wp2_with (first | (go_at_call 50; refine (l03Ok_t _ a0_0 a0_1 _ la0_2 ca0_2 xa0_2 _ ha0_2 ⟨by simp, by simp, by simp⟩ ((RA.out.below (by repeat (first | assumption | exact Below.refl _ _ | (refine Below.setCell ?_ (by first | omega | (simp; done) | (simp; omega)) _) | apply below_drewN | apply Below.drew | (refine Below.alloc ?_ (by first | omega | (simp; done) | (simp; omega)) _)))).mono (by first | omega | (simp; done) | (simp; omega))) H.out.1).mono ?_; rintro e w' ⟨rfl, m, rfl⟩) | (go_at_call 67; first | (refine (in_t _ _ _ _ (by omega)).mono ?_; rintro e w' ⟨rfl, rfl⟩) | (refine (in_f _ _ _ _ (by omega)).mono ?_; rintro e w' ⟨rfl, rfl⟩)) | (go_at_call 65; refine (l03Volume_t _ a0_0 a0_1 _ la0_2 ca0_2 xa0_2 _ _ ⟨by simp, by simp, by simp⟩ ((RA.out.below (by repeat (first | assumption | exact Below.refl _ _ | (refine Below.setCell ?_ (by first | omega | (simp; done) | (simp; omega)) _) | apply below_drewN | apply Below.drew | (refine Below.alloc ?_ (by first | omega | (simp; done) | (simp; omega)) _)))).mono (by first | omega | (simp; done) | (simp; omega))) H.out.1 HY.out).mono ?_; rintro e w' ⟨rfl, rfl⟩))
      go_loop [6, 7, 8] (fun lo hi _ => ∃ p q : Nat, p ≤ q ∧ q ≤ 4000 ∧ lo = .int .i64 (-2001 + (p : Int)) ∧ hi = .int .i64 (-2000 + (q : Int)) ∧ Hid ((∀ k, k < p → ¬ roomP xa0_2 a1 k) ∧ roomP xa0_2 a1 q)) (fun lo hi _ => (intOf hi - intOf lo).toNat)
      case atStart => exact ⟨0, 4000, by omega, by omega, by simp, by simp, fun k hk => by omega, HR.out⟩
      case round =>
        obtain ⟨p, q, hpq, hq, rfl, rfl, hr⟩ := hrel
        by_cases hlt : p < q
        · obtain ⟨m, hm⟩ : ∃ m, m = (p + q - 1) / 2 := ⟨_, rfl⟩
          have hm1 : p ≤ m := by omega
          have hm2 : m < q := by omega
          have HE := Lib.hid (show (-2001 + (p : Int) + (-2000 + (q : Int))) / 2 = -2000 + (m : Int) by omega)
          have HYM := Lib.hid (show lvl (-2000 + (m : Int)) by unfold lvl; omega)
          clear hm
          by_cases hp : roomP xa0_2 a1 m
          · have HP := Lib.hid hp
            have ht : a1 ≤ vol (-2000 + (m : Int)) xa0_2 la0_2 := by unfold roomP at hp; rw [hln] at hp; exact hp
            clear hp
            go_wp2_with (first | (go_at_call 68; refine (floor2_t _ _ _ (by omega) (by omega) HE.out).mono ?_; rintro e w' ⟨rfl, rfl⟩) | (go_at_call 65; refine (l03Volume_t _ a0_0 a0_1 _ la0_2 ca0_2 xa0_2 _ _ ⟨by simp, by simp, by simp⟩ ((RA.out.below (by repeat (first | assumption | exact Below.refl _ _ | (refine Below.setCell ?_ (by first | omega | (simp; done) | (simp; omega)) _) | apply below_drewN | apply Below.drew | (refine Below.alloc ?_ (by first | omega | (simp; done) | (simp; omega)) _)))).mono (by first | omega | (simp; done) | (simp; omega))) H.out.1 HYM.out).mono ?_; rintro e w' ⟨rfl, rfl⟩))
            go_round
            case rel => exact ⟨p, m, by omega, by omega, rfl, rfl, hr.out.1, HP.out⟩
            case measure => simp [intOf]; omega
          · have HP := Lib.hid hp
            have ht : ¬ a1 ≤ vol (-2000 + (m : Int)) xa0_2 la0_2 := by unfold roomP at hp; rw [hln] at hp; exact hp
            clear hp
            go_wp2_with (first | (go_at_call 68; refine (floor2_t _ _ _ (by omega) (by omega) HE.out).mono ?_; rintro e w' ⟨rfl, rfl⟩) | (go_at_call 65; refine (l03Volume_t _ a0_0 a0_1 _ la0_2 ca0_2 xa0_2 _ _ ⟨by simp, by simp, by simp⟩ ((RA.out.below (by repeat (first | assumption | exact Below.refl _ _ | (refine Below.setCell ?_ (by first | omega | (simp; done) | (simp; omega)) _) | apply below_drewN | apply Below.drew | (refine Below.alloc ?_ (by first | omega | (simp; done) | (simp; omega)) _)))).mono (by first | omega | (simp; done) | (simp; omega))) H.out.1 HYM.out).mono ?_; rintro e w' ⟨rfl, rfl⟩))
            go_round
            case rel => exact ⟨m + 1, q, by omega, by omega, by rw [show (-2001 : Int) + ((m + 1 : Nat) : Int) = -2000 + (m : Int) by omega], rfl, fun k hk hrk => HP.out (room_mono (by omega) hrk), hr.out.2⟩
            case measure => simp [intOf]; omega
        · obtain rfl : p = q := by omega
          have HE := Lib.hid (show lfIx xa0_2 a1 = p from noRoom_eq (by omega) hr.out.1 (fun _ => hr.out.2))
          obtain rfl : ix = p := by rw [← HX.out, HE.out]
          go_wp2
          go_ret2
          exact ⟨rfl, (by repeat (first | assumption | exact Below.refl _ _ | (refine Below.setCell ?_ (by first | omega | (simp; done) | (simp; omega)) _) | apply below_drewN | apply Below.drew | (refine Below.alloc ?_ (by first | omega | (simp; done) | (simp; omega)) _)))⟩
    · rw [(lf_full h hi).1, (lf_full h hi).2]
      have hv : vol 2000 xa0_2 la0_2 < a1 := by
        have := fun e => hi ((lf_iff _ _).2 e)
        unfold roomP at this
        rw [hln] at this
        exact Int.not_le.1 this
      clear h hi
      go_enter Try.func35, Try.ntmps35
      go_wp2_with (first | (go_at_call 50; refine (l03Ok_t _ a0_0 a0_1 _ la0_2 ca0_2 xa0_2 _ ha0_2 ⟨by simp, by simp, by simp⟩ ((RA.out.below (by repeat (first | assumption | exact Below.refl _ _ | (refine Below.setCell ?_ (by first | omega | (simp; done) | (simp; omega)) _) | apply below_drewN | apply Below.drew | (refine Below.alloc ?_ (by first | omega | (simp; done) | (simp; omega)) _)))).mono (by first | omega | (simp; done) | (simp; omega))) H.out.1).mono ?_; rintro e w' ⟨rfl, m, rfl⟩) | (go_at_call 67; first | (refine (in_t _ _ _ _ (by omega)).mono ?_; rintro e w' ⟨rfl, rfl⟩) | (refine (in_f _ _ _ _ (by omega)).mono ?_; rintro e w' ⟨rfl, rfl⟩)) | (go_at_call 65; refine (l03Volume_t _ a0_0 a0_1 _ la0_2 ca0_2 xa0_2 _ _ ⟨by simp, by simp, by simp⟩ ((RA.out.below (by repeat (first | assumption | exact Below.refl _ _ | (refine Below.setCell ?_ (by first | omega | (simp; done) | (simp; omega)) _) | apply below_drewN | apply Below.drew | (refine Below.alloc ?_ (by first | omega | (simp; done) | (simp; omega)) _)))).mono (by first | omega | (simp; done) | (simp; omega))) H.out.1 HY.out).mono ?_; rintro e w' ⟨rfl, rfl⟩))
      go_ret2
      exact ⟨rfl, (by repeat (first | assumption | exact Below.refl _ _ | (refine Below.setCell ?_ (by first | omega | (simp; done) | (simp; omega)) _) | apply below_drewN | apply Below.drew | (refine Below.alloc ?_ (by first | omega | (simp; done) | (simp; omega)) _)))⟩
  · rw [(lf_bad h).1, (lf_bad h).2]
    by_cases hv : LandOk a0_0 a0_1 xa0_2
    · have hy : a1 < 0 ∨ 1000000000 < a1 := by
        by_cases hy : 0 ≤ a1 ∧ a1 ≤ 1000000000
        · exact absurd ⟨hv, hy⟩ h
        · omega
      rw [lcode_no hv (fun e => h ⟨hv, e⟩)]
      have H := Lib.hid hv
      clear h hv
      go_enter Try.func35, Try.ntmps35
      go_wp2_with (first | (go_at_call 50; refine (l03Ok_t _ a0_0 a0_1 _ la0_2 ca0_2 xa0_2 _ ha0_2 ⟨by simp, by simp, by simp⟩ ((RA.out.below (by repeat (first | assumption | exact Below.refl _ _ | (refine Below.setCell ?_ (by first | omega | (simp; done) | (simp; omega)) _) | apply below_drewN | apply Below.drew | (refine Below.alloc ?_ (by first | omega | (simp; done) | (simp; omega)) _)))).mono (by first | omega | (simp; done) | (simp; omega))) H.out).mono ?_; rintro e w' ⟨rfl, m, rfl⟩) | (go_at_call 67; first | (refine (in_t _ _ _ _ (by omega)).mono ?_; rintro e w' ⟨rfl, rfl⟩) | (refine (in_f _ _ _ _ (by omega)).mono ?_; rintro e w' ⟨rfl, rfl⟩)))
      go_ret2
      exact ⟨rfl, (by repeat (first | assumption | exact Below.refl _ _ | (refine Below.setCell ?_ (by first | omega | (simp; done) | (simp; omega)) _) | apply below_drewN | apply Below.drew | (refine Below.alloc ?_ (by first | omega | (simp; done) | (simp; omega)) _)))⟩
    · rw [lcode_bad hv]
      have H := Lib.hid hv
      clear h hv
      go_enter Try.func35, Try.ntmps35
      go_wp2_with (first | (go_at_call 50; refine (l03Ok_f _ a0_0 a0_1 _ la0_2 ca0_2 xa0_2 _ ha0_2 ⟨by simp, by simp, by simp⟩ ((RA.out.below (by repeat (first | assumption | exact Below.refl _ _ | (refine Below.setCell ?_ (by first | omega | (simp; done) | (simp; omega)) _) | apply below_drewN | apply Below.drew | (refine Below.alloc ?_ (by first | omega | (simp; done) | (simp; omega)) _)))).mono (by first | omega | (simp; done) | (simp; omega))) H.out).mono ?_; rintro e w' ⟨rfl, m, rfl⟩))
      go_ret2
      exact ⟨rfl, (by repeat (first | assumption | exact Below.refl _ _ | (refine Below.setCell ?_ (by first | omega | (simp; done) | (simp; omega)) _) | apply below_drewN | apply Below.drew | (refine Below.alloc ?_ (by first | omega | (simp; done) | (simp; omega)) _)))⟩

end Go.Proofs.Ytagnhlcgfcppjab
