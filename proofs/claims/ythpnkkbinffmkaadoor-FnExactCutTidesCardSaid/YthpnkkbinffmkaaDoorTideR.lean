import Derived.Test.YthpnkkbinffmkaaDoorCShiftTides
import Derived.Test.YthpnkkbinffmkaaDoorTideL
namespace Go.Proofs.YthpnkkbinffmkaaDoor
open Go.RowKit

/- caps: (ka0 : la0 ≤ ca0) · sentinels: (hsent : Sent w B se0 se1 se2) -/

/-- a level of a table, rounded -/
def rdQ (a b : Int) : Int := (2 * a + b) / (2 * b)
def rdAt (xs : List RTide) (n : Nat) (m : Int) : Int := rdQ (tNu xs (flF xs m (n - 2)) m) (tDe xs (flF xs m (n - 2)))
theorem rdQ_eq {a b c d : Int} (hb : 1 ≤ b) (hd : 1 ≤ d) (h : a * d = c * b) : rdQ a b = rdQ c d := by
  unfold rdQ
  have e1 : (2 * a + b) * d / (2 * b * d) = (2 * a + b) / (2 * b) := Int.mul_ediv_mul_of_pos_left _ _ (by omega)
  have e2 : (2 * c + d) * b / (2 * d * b) = (2 * c + d) / (2 * d) := Int.mul_ediv_mul_of_pos_left _ _ (by omega)
  have e3 : (2 * a + b) * d = (2 * c + d) * b := by
    rw [Int.add_mul, Int.add_mul, Int.mul_assoc, Int.mul_assoc, h, Int.mul_comm b d]
  have e4 : 2 * b * d = 2 * d * b := by rw [Int.mul_assoc, Int.mul_assoc, Int.mul_comm b d]
  rw [← e1, ← e2, e3, e4]
theorem fr_x {S n : Int} (h : 1 ≤ n) : fnum S n * n = S * fden S n ∧ (fnum S n).natAbs ≤ S.natAbs := by
  have g1 := fgcd_pos S n h
  have d1 : (fgcd S n : Int) ∣ S := Int.ofNat_dvd_left.2 (Nat.gcd_dvd_left _ _)
  have d2 : (fgcd S n : Int) ∣ n := Int.ofNat_dvd_left.2 (by
    rw [show n.natAbs = n.toNat by omega]
    exact Nat.gcd_dvd_right _ _)
  unfold fnum fden
  generalize (fgcd S n : Int) = g at g1 d1 d2 ⊢
  obtain ⟨a, rfl⟩ := d1
  obtain ⟨b, rfl⟩ := d2
  rw [Int.mul_tdiv_cancel_left a (by omega), Int.mul_ediv_cancel_left b (by omega)]
  refine ⟨by rw [Int.mul_comm g a, Int.mul_assoc, Int.mul_left_comm], ?_⟩
  rw [Int.natAbs_mul]
  exact Nat.le_mul_of_pos_left _ (by omega)
theorem fr_bd {S n : Int} (h : 1 ≤ n) : 1 ≤ fden S n ∧ fden S n ≤ n := by
  refine ⟨?_, (fden_bd S n h).2⟩
  have g1 := fgcd_pos S n h
  have d2 : (fgcd S n : Int) ∣ n := Int.ofNat_dvd_left.2 (by
    rw [show n.natAbs = n.toNat by omega]
    exact Nat.gcd_dvd_right _ _)
  unfold fden
  generalize (fgcd S n : Int) = g at g1 d2 ⊢
  obtain ⟨b, rfl⟩ := d2
  rw [Int.mul_ediv_cancel_left b (by omega)]
  rcases Int.lt_or_le 0 b with hb | hb
  · omega
  · have := Int.mul_le_mul_of_nonneg_left hb (show 0 ≤ g by omega)
    rw [Int.mul_zero] at this
    omega
/-- the elements between two minutes -/
def cutN (xs : List RTide) (f t : Int) : Nat → List RTide
  | 0 => []
  | k + 1 => if f < tM xs k ∧ tM xs k < t then cutN xs f t k ++ [⟨tM xs k, tL xs k⟩] else cutN xs f t k
theorem cutN_len (xs : List RTide) (f t : Int) (k : Nat) : (cutN xs f t k).length ≤ k := by
  induction k with
  | zero => simp [cutN]
  | succ k ih => unfold cutN; split <;> first | omega | (simp; omega)
def ctL (xs : List RTide) (n : Nat) (f t : Int) (k : Nat) : List RTide := ⟨f, rdAt xs n f⟩ :: cutN xs f t k
def ctS (xs : List RTide) (n : Nat) (f t : Int) : List RTide := ctL xs n f t n ++ [⟨t, rdAt xs n t⟩]
theorem ctL_yes {xs : List RTide} {n : Nat} {f t : Int} {k : Nat} (h : f < tM xs k ∧ tM xs k < t) : ctL xs n f t (k + 1) = ctL xs n f t k ++ [⟨tM xs k, tL xs k⟩] := by
  unfold ctL
  rw [cutN, if_pos h]
  rfl
theorem ctL_no {xs : List RTide} {n : Nat} {f t : Int} {k : Nat} (h : ¬ (f < tM xs k ∧ tM xs k < t)) : ctL xs n f t (k + 1) = ctL xs n f t k := by
  unfold ctL
  rw [cutN, if_neg h]
theorem ctL_len (xs : List RTide) (n : Nat) (f t : Int) (k : Nat) : (ctL xs n f t k).length ≤ k + 1 := by
  have := cutN_len xs f t k
  simp [ctL]
  omega
def ctok (n : Nat) (xs : List RTide) (f t : Int) : Prop := f < t ∧ inT n xs f ∧ inT n xs t
instance (n : Nat) (xs : List RTide) (f t : Int) : Decidable (ctok n xs f t) := by unfold ctok; exact inferInstance
def r0_CutTides (xa0 : List RTide) (a1 a2 : Int) : List RTide := if TdOk xa0.length xa0 ∧ ctok xa0.length xa0 a1 a2 then (if TdOk (ctS xa0 xa0.length a1 a2).length (ctS xa0 xa0.length a1 a2) then ctS xa0 xa0.length a1 a2 else []) else []
def r1_CutTides (xa0 : List RTide) (a1 a2 : Int) : Int := if TdOk xa0.length xa0 ∧ ctok xa0.length xa0 a1 a2 then (if TdOk (ctS xa0 xa0.length a1 a2).length (ctS xa0 xa0.length a1 a2) then 0 else 6) else tcode xa0.length xa0 (ctok xa0.length xa0 a1 a2)
theorem len_r0_CutTides (xa0 : List RTide) (a1 a2 : Int) : (r0_CutTides xa0 a1 a2).length ≤ 1048576 := by
  unfold r0_CutTides
  split
  · rename_i h
    have := h.1.2.2
    split
    · have := ctL_len xa0 xa0.length a1 a2 xa0.length
      simp only [ctS, List.length_append, List.length_singleton]
      omega
    · simp
  · simp

theorem ownsR_one {W : World} {k base : Nat} {x0 x1 : Int} (hk : W.heap.size = k) (hb : base ≤ k) : (W.alloc (.cells #[.int .i64 x0, .int .i64 x1] 44)).ownsRow base 44 2 (.slice (some ⟨k, 0, none⟩) 1 1) 1 (csTide [⟨x0, x1⟩]) := by
  subst hk
  exact ⟨by simp [csTide, encTide], .inr ⟨_, 1, #[.int .i64 x0, .int .i64 x1], rfl, hb, heap_alloc_new W _, Nat.le_refl _, by decide, by simp, by simp [csTide, encTide]⟩⟩

theorem roundS_t (a b q : Int) (w : World) (h1 : -600000000 ≤ a ∧ a ≤ 600000000) (h2 : 1 ≤ b ∧ b ≤ 100000) (hq : rdQ a b = q) :
    Calls Tryd.prog 41 #[.int .i64 a, .int .i64 b] w fun e w' => e = .returned (.int .i64 q) ∧ w = w' := by
  have HQ := Lib.hid hq
  clear hq
  go_enter Tryd.func41, Tryd.ntmps41
  go_wp2_with (go_at_call 53; refine (floorS_t _ _ q _ (by omega) (by omega) (by omega) (by omega) HQ.out).mono ?_; rintro e1 w1 ⟨rfl, rfl⟩)
  go_ret
  exact ⟨rfl, rfl⟩

set_option maxHeartbeats 800000 in
theorem roundI_t (x y q : Int) (w : World) (h1 : -600000000 ≤ x ∧ x ≤ 600000000) (h2 : 1 ≤ y ∧ y ≤ 100000) (hq : rdQ x y = q) :
    Calls Tryd.prog 67 #[.agg #[.int .i64 x, .int .i64 y]] w fun e w' => e = .returned (.tuple #[.int .i64 q, .int .i64 0]) ∧ Below w.heap.size w w' := by
  have HQ := Lib.hid hq
  obtain ⟨g1, g2⟩ := h1
  obtain ⟨g3, g4⟩ := h2
  clear hq
  go_enter Tryd.func67, Tryd.ntmps67
  go_wp2_with (first | (go_at_call 37; first | (refine (within_t _ _ _ _ (by omega)).mono ?_; rintro e w' ⟨rfl, rfl⟩) | (refine (within_f _ _ _ _ (by omega)).mono ?_; rintro e w' ⟨rfl, rfl⟩)) | (go_at_call 71; refine (floorI_t _ _ q _ (by omega) (by omega) (by omega) (by omega) HQ.out).mono ?_; rintro e w' ⟨rfl, rfl⟩) | go_in)
  go_ret2
  exact ⟨rfl, (by repeat (first | assumption | exact Below.refl _ _ | (refine Below.setCell ?_ (by first | omega | (simp; done) | (simp; omega)) _) | apply below_drewN | apply Below.drew | (refine Below.alloc ?_ (by first | omega | (simp; done) | (simp; omega)) _)))⟩

set_option maxHeartbeats 1600000 in
theorem roundedAt_t (A : Option Addr) (n c : Nat) (xs : List RTide) (m q : Int) (w : World) (hn : n ≤ 1048576) (ha : Rd_Tide w w.heap.size A n xs) (h : TdOk n xs) (hm : inT n xs m) (hq : rdAt xs n m = q) :
    Calls Tryd.prog 54 #[.slice A n c, .int .i64 m] w fun e w' => e = .returned (.agg #[.int .i64 m, .int .i64 q]) ∧ Below w.heap.size w w' := by
  obtain ⟨i, hi⟩ : ∃ i, i = flF xs m (n - 2) := ⟨_, rfl⟩
  have hof : OnFl n xs m i := hi ▸ flF_on h hm
  have hd := (hof.bd h).1
  have hnn := hof.num h
  have HA := Lib.hid ha
  have HAT := Lib.hid (fun (W : World) (hW : Rd_Tide W W.heap.size A n xs) => levelAtT_t A n c xs m W hn hW h hm i hof)
  have hx := fr_x (S := tNu xs i m) hd.1
  have hy := fr_bd (S := tNu xs i m) hd.1
  have hq2 : rdQ (fnum (tNu xs i m) (tDe xs i)) (fden (tNu xs i m) (tDe xs i)) = q := by
    rw [← hq]
    unfold rdAt
    rw [← hi]
    exact rdQ_eq hy.1 hd.1 hx.1
  have hb1 : -600000000 ≤ fnum (tNu xs i m) (tDe xs i) ∧ fnum (tNu xs i m) (tDe xs i) ≤ 600000000 := by have := hx.2; omega
  have hb2 : 1 ≤ fden (tNu xs i m) (tDe xs i) ∧ fden (tNu xs i m) (tDe xs i) ≤ 100000 := by omega
  have HQ := Lib.hid hq2
  have HB1 := Lib.hid hb1
  have HB2 := Lib.hid hb2
  clear hi hof hd hnn hx hy hq2 hq hb1 hb2 ha h hm
  generalize fnum (tNu xs i m) (tDe xs i) = num at *
  generalize fden (tNu xs i m) (tDe xs i) = den at *
  go_enter Tryd.func54, Tryd.ntmps54
  go_wp2_with (first | (go_at_call 68; refine (HAT.out _ ((HA.out.below (by repeat (first | assumption | exact Below.refl _ _ | (refine Below.setCell ?_ (by first | omega | (simp; done) | (simp; omega)) _) | apply below_drewN | apply Below.drew | (refine Below.alloc ?_ (by first | omega | (simp; done) | (simp; omega)) _)))).mono (by first | omega | (simp; done) | (simp; omega)))).mono ?_; rintro e3 W3 ⟨rfl, b3⟩; obtain ⟨k3, g3⟩ := bcell b3; have s3 : w.heap.size < W3.heap.size := (by have := b3.size; simp at this; omega); have u0 : W3.cell? ⟨w.heap.size, 0, none⟩ = some (.int .i64 0) := (by rw [k3 _ _ (by first | omega | (simp; done) | (simp; omega))]; first | (simp; done) | go_simp); have uf0 : W3.frozen? ⟨w.heap.size, 0, none⟩ = false := (by rw [g3 _ _ (by first | omega | (simp; done) | (simp; omega))]; first | (simp; done) | go_simp); have u1 : W3.cell? ⟨w.heap.size, 1, none⟩ = some (.int .i64 0) := (by rw [k3 _ _ (by first | omega | (simp; done) | (simp; omega))]; first | (simp; done) | go_simp); have uf1 : W3.frozen? ⟨w.heap.size, 1, none⟩ = false := (by rw [g3 _ _ (by first | omega | (simp; done) | (simp; omega))]; first | (simp; done) | go_simp); clear k3 g3; have d3 : Below w.heap.size w W3 := (by repeat (first | assumption | exact Below.refl _ _ | (refine Below.trans ?_ (b3.mono (by first | omega | (simp; done) | (simp; omega)))) | (refine Below.setCell ?_ (by first | omega | (simp; done) | (simp; omega)) _) | apply below_drewN | apply Below.drew | (refine Below.alloc ?_ (by first | omega | (simp; done) | (simp; omega)) _))); clear b3) | (go_at_call 67; refine (roundI_t num den q _ HB1.out HB2.out HQ.out).mono ?_; rintro e4 W4 ⟨rfl, b4⟩; obtain ⟨k4, g4⟩ := bcell b4; have s4 : w.heap.size < W4.heap.size := (by have := b4.size; omega); have v0 : W4.cell? ⟨w.heap.size, 0, none⟩ = some (.int .i64 0) := (by rw [k4 _ _ (by first | omega | (simp; done) | (simp; omega))]; first | (simp; done) | go_simp); have vf0 : W4.frozen? ⟨w.heap.size, 0, none⟩ = false := (by rw [g4 _ _ (by first | omega | (simp; done) | (simp; omega))]; first | (simp; done) | go_simp); have v1 : W4.cell? ⟨w.heap.size, 1, none⟩ = some (.int .i64 0) := (by rw [k4 _ _ (by first | omega | (simp; done) | (simp; omega))]; first | (simp; done) | go_simp); have vf1 : W4.frozen? ⟨w.heap.size, 1, none⟩ = false := (by rw [g4 _ _ (by first | omega | (simp; done) | (simp; omega))]; first | (simp; done) | go_simp); clear k4 g4; have d4 : Below w.heap.size w W4 := d3.trans (b4.mono (by omega)); clear b4))
  exact bodyPost_ret (v := .agg #[.int .i64 m, .int .i64 q]) (by simp [results, Tryd.results54, go_sem, v0, v1, vf0, vf1]) rfl ⟨rfl, (by repeat (first | assumption | exact Below.refl _ _ | (refine Below.trans ?_ (d4.mono (by first | omega | (simp; done) | (simp; omega)))) | (refine Below.setCell ?_ (by first | omega | (simp; done) | (simp; omega)) _) | apply below_drewN | apply Below.drew | (refine Below.alloc ?_ (by first | omega | (simp; done) | (simp; omega)) _)))⟩

end Go.Proofs.YthpnkkbinffmkaaDoor
