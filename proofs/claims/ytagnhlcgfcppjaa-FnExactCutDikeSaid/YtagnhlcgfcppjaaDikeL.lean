/- Dikes: lengths, the weakest section, the clay: of the model and of the program. -/
import Derived.Test.YtagnhlcgfcppjaaDikeC
import Derived.Test.YtagnhlcgfcppjaaOwnR
import Derived.Test.YtagnhlcgfcppjaaOwnS
import Derived.BigQuiet
namespace Go.Proofs.Ytagnhlcgfcppjaa
open Go.RowKit

/-- the length of any sections, as the machine reckons it -/
def lnW (xs : List RSection) : Nat → Int
  | 0 => 0
  | k + 1 => wrap64 (lnW xs k + (xs.getD k zSection).f0)
theorem lnW_ok {n : Nat} {xs : List RSection} (h : DkOk n xs) (k : Nat) (hk : k ≤ n) : lnW xs k = lenN xs k := by
  induction k with
  | zero => rfl
  | succ k ih =>
    have b := lenN_bd h (k + 1) hk
    show wrap64 (lnW xs k + (xs.getD k zSection).f0) = lenN xs k + (xs.getD k zSection).f0
    rw [ih (by omega)]
    have e : lenN xs (k + 1) = lenN xs k + (xs.getD k zSection).f0 := rfl
    have := h.2.2
    exact IntWalk.wrap64_in _ (by omega)

set_option maxHeartbeats 800000 in
theorem lengthI_t (A : Option Addr) (n c : Nat) (xs : List RSection) (w : World) (hn : n ≤ 1048576) (ha : Rd_Section w w.heap.size A n xs) :
    Calls Try.prog 58 #[.slice A n c] w fun e w' => e = .returned (.int .i64 (lnW xs n)) ∧ Below w.heap.size w w' := by
  have HA := Lib.hid ha
  clear ha
  go_enter Try.func58, Try.ntmps58
  go_wp2
  go_loopw [3, 5, 8] (fun s _ i wr => ∃ k : Nat, k ≤ n ∧ i = .int .i64 (k : Int) ∧ s = .int .i64 (lnW xs k) ∧ Below w.heap.size w wr) (fun _ _ i _ => n - (intOf i).toNat)
  case atStart => exact ⟨0, by omega, rfl, rfl, Below.refl _ _⟩
  case round =>
    obtain ⟨k, hk, rfl, rfl, hb⟩ := hrel
    have hsz := hb.size
    by_cases hlt : k < n
    · obtain ⟨ab, o, rfl, hbB, hc⟩ := (HA.out.below hb).at (by omega)
      have p := hc k hlt
      clear hc
      have HS := Lib.hid (show lnW xs (k + 1) = wrap64 (lnW xs k + (xs.getD k zSection).f0) from rfl)
      obtain ⟨x, hx⟩ := getZs xs k
      rw [← hx] at p HS
      clear hx
      obtain ⟨x0, x1⟩ := x
      obtain ⟨p0, p1⟩ := p
      simp only at p0 p1 HS
      go_wp2
      go_roundw
      case rel => exact ⟨k + 1, by omega, by go_num, by rw [HS.out], (by repeat (first | assumption | exact Below.refl _ _ | (refine Below.setCell ?_ (by first | omega | (simp; done) | (simp; omega)) _) | apply below_drewN | apply Below.drew | (refine Below.alloc ?_ (by first | omega | (simp; done) | (simp; omega)) _)))⟩
      case measure => simp [intOf]; omega
    · obtain rfl : k = n := by omega
      go_wp2
      go_ret
      exact ⟨rfl, (by repeat (first | assumption | exact Below.refl _ _ | (refine Below.setCell ?_ (by first | omega | (simp; done) | (simp; omega)) _) | apply below_drewN | apply Below.drew | (refine Below.alloc ?_ (by first | omega | (simp; done) | (simp; omega)) _)))⟩

set_option maxHeartbeats 800000 in
theorem lengthS_t (A : Option Addr) (n c : Nat) (xs : List RSection) (w : World) (hn : n ≤ 1048576) (ha : Rd_Section w w.heap.size A n xs) (h : DkOk n xs) :
    Calls Try.prog 56 #[.slice A n c] w fun e w' => e = .returned (.int .i64 (lenN xs n)) ∧ w = w' := by
  have HA := Lib.hid ha
  have HK := Lib.hid h
  have h30 := h.2.2
  clear ha h
  go_enter Try.func56, Try.ntmps56
  go_wp2
  go_loop [3, 4] (fun s i => ∃ k : Nat, k ≤ n ∧ i = .int .i64 (k : Int) ∧ s = .int .i64 (lenN xs k)) (fun _ i => n - (intOf i).toNat)
  case atStart => exact ⟨0, by omega, rfl, rfl⟩
  case round =>
    obtain ⟨k, hk, rfl, rfl⟩ := hrel
    by_cases hlt : k < n
    · obtain ⟨ab, o, rfl, hbB, hc⟩ := HA.out.at (by omega)
      have p := hc k hlt
      clear hc
      have HS := Lib.hid (show lenN xs (k + 1) = lenN xs k + (xs.getD k zSection).f0 from rfl)
      obtain ⟨u1, u2⟩ := lenN_bd HK.out k hk
      have hd := HK.out.1 k hlt
      obtain ⟨x, hx⟩ := getZs xs k
      rw [← hx] at p HS hd
      clear hx
      obtain ⟨x0, x1⟩ := x
      obtain ⟨p0, p1⟩ := p
      obtain ⟨d0, d1, _, _⟩ := hd
      simp only at p0 p1 HS d0 d1
      generalize lenN xs k = s at u1 u2 HS ⊢
      go_wp2
      go_round
      case rel => exact ⟨k + 1, by omega, by go_num, by rw [HS.out]⟩
      case measure => simp [intOf]; omega
    · obtain rfl : k = n := by omega
      go_wp2
      go_ret
      exact ⟨rfl, rfl⟩

theorem wkF_lt (xs : List RSection) (k : Nat) (h : 0 < k) : wkF xs k < k := by
  obtain ⟨k, rfl⟩ : ∃ m, k = m + 1 := ⟨k - 1, by omega⟩
  exact (wkF_is xs k).1
theorem wkF_yes {xs : List RSection} {k : Nat} (h : (xs.getD k zSection).f1 < (xs.getD (wkF xs k) zSection).f1) : wkF xs (k + 1) = k := if_pos h
theorem wkF_no {xs : List RSection} {k : Nat} (h : ¬ (xs.getD k zSection).f1 < (xs.getD (wkF xs k) zSection).f1) : wkF xs (k + 1) = wkF xs k := if_neg h

set_option maxHeartbeats 1600000 in
theorem weakestS_t (A : Option Addr) (n c : Nat) (xs : List RSection) (w : World) (hn : n ≤ 1048576) (h0 : 0 < n) (ha : Rd_Section w w.heap.size A n xs) :
    Calls Try.prog 61 #[.slice A n c] w fun e w' => e = .returned (.int .i64 ((wkF xs n : Nat) : Int)) ∧ Below w.heap.size w w' := by
  have HA := Lib.hid ha
  clear ha
  go_enter Try.func61, Try.ntmps61
  go_wp2
  go_loopw [3, 4] (fun s i wr => ∃ k : Nat, 0 < k ∧ k ≤ n ∧ i = .int .i64 (k : Int) ∧ s = .int .i64 ((wkF xs k : Nat) : Int) ∧ Below w.heap.size w wr) (fun _ i _ => n - (intOf i).toNat)
  case atStart => exact ⟨1, by omega, by omega, rfl, by rw [wkF_one]; rfl, Below.refl _ _⟩
  case round =>
    obtain ⟨k, hk0, hk, rfl, rfl, hb⟩ := hrel
    have hwl := wkF_lt xs k hk0
    by_cases hlt : k < n
    · obtain ⟨ab, o, rfl, hbB, hc⟩ := (HA.out.below hb).at (by omega)
      have p := hc k hlt
      have q := hc (wkF xs k) (by omega)
      clear hc
      by_cases hg : (xs.getD k zSection).f1 < (xs.getD (wkF xs k) zSection).f1
      · have HS := Lib.hid (wkF_yes hg)
        generalize wkF xs k = m at *
        generalize xs.getD k zSection = x at *
        generalize xs.getD m zSection = y at *
        obtain ⟨x0, x1⟩ := x
        obtain ⟨y0, y1⟩ := y
        obtain ⟨p0, p1⟩ := p
        obtain ⟨q0, q1⟩ := q
        simp only at p0 p1 q0 q1 hg
        go_wp2
        go_quiet (fail)
        go_wp2
        go_roundw
        case rel => exact ⟨k + 1, by omega, by omega, by go_num, by rw [HS.out], (by repeat (first | assumption | exact Below.refl _ _ | (refine Below.setCell ?_ (by first | omega | (simp; done) | (simp; omega)) _) | apply below_drewN | apply Below.drew | (refine Below.alloc ?_ (by first | omega | (simp; done) | (simp; omega)) _)))⟩
        case measure => simp [intOf]; omega
      · have HS := Lib.hid (wkF_no hg)
        generalize wkF xs k = m at *
        generalize xs.getD k zSection = x at *
        generalize xs.getD m zSection = y at *
        obtain ⟨x0, x1⟩ := x
        obtain ⟨y0, y1⟩ := y
        obtain ⟨p0, p1⟩ := p
        obtain ⟨q0, q1⟩ := q
        simp only at p0 p1 q0 q1 hg
        go_wp2
        go_quiet (fail)
        go_wp2
        go_roundw
        case rel => exact ⟨k + 1, by omega, by omega, by go_num, by rw [HS.out], (by repeat (first | assumption | exact Below.refl _ _ | (refine Below.setCell ?_ (by first | omega | (simp; done) | (simp; omega)) _) | apply below_drewN | apply Below.drew | (refine Below.alloc ?_ (by first | omega | (simp; done) | (simp; omega)) _)))⟩
        case measure => simp [intOf]; omega
    · obtain rfl : k = n := by omega
      go_wp2
      go_ret
      exact ⟨rfl, (by repeat (first | assumption | exact Below.refl _ _ | (refine Below.setCell ?_ (by first | omega | (simp; done) | (simp; omega)) _) | apply below_drewN | apply Below.drew | (refine Below.alloc ?_ (by first | omega | (simp; done) | (simp; omega)) _)))⟩

theorem wkF_le (xs : List RSection) (k : Nat) : wkF xs k ≤ k := by
  rcases Nat.eq_zero_or_pos k with rfl | h
  · exact Nat.le_refl _
  · exact Nat.le_of_lt (wkF_lt xs k h)
theorem wkF_lt' (xs : List RSection) {k n : Nat} (hk : k ≤ n) (h0 : 0 < n) : wkF xs k < n := by
  rcases Nat.eq_zero_or_pos k with rfl | h
  · exact h0
  · have := wkF_lt xs k h; omega

set_option maxHeartbeats 1600000 in
theorem weakestI_t (A : Option Addr) (n c : Nat) (xs : List RSection) (w : World) (hn : n ≤ 1048576) (h0 : 0 < n) (ha : Rd_Section w w.heap.size A n xs) :
    Calls Try.prog 62 #[.slice A n c] w fun e w' => e = .returned (.int .i64 ((wkF xs n : Nat) : Int)) ∧ Below w.heap.size w w' := by
  have HA := Lib.hid ha
  clear ha
  go_enter Try.func62, Try.ntmps62
  go_wp2
  go_loopw [3, 4, 5, 8] (fun s _ _ i wr => ∃ k : Nat, k ≤ n ∧ i = .int .i64 (k : Int) ∧ s = .int .i64 ((wkF xs k : Nat) : Int) ∧ Below w.heap.size w wr) (fun _ _ _ i _ => n - (intOf i).toNat)
  case atStart => exact ⟨0, by omega, rfl, rfl, Below.refl _ _⟩
  case round =>
    obtain ⟨k, hk, rfl, rfl, hb⟩ := hrel
    have hwl := wkF_lt' xs hk h0
    have hsz := hb.size
    by_cases hlt : k < n
    · obtain ⟨ab, o, rfl, hbB, hc⟩ := (HA.out.below hb).at (by omega)
      have p := hc k hlt
      have q := hc (wkF xs k) (by omega)
      clear hc
      have hb1 : ab < wr.heap.size := by omega
      by_cases hg : (xs.getD k zSection).f1 < (xs.getD (wkF xs k) zSection).f1
      · have HS := Lib.hid (wkF_yes hg)
        generalize wkF xs k = m at *
        generalize xs.getD k zSection = x at *
        generalize xs.getD m zSection = y at *
        obtain ⟨x0, x1⟩ := x
        obtain ⟨y0, y1⟩ := y
        obtain ⟨p0, p1⟩ := p
        obtain ⟨q0, q1⟩ := q
        simp only at p0 p1 q0 q1 hg
        go_wp2
        go_quiet (fail)
        go_wp2
        go_roundw
        case rel => exact ⟨k + 1, by omega, by go_num, by rw [HS.out], (by repeat (first | assumption | exact Below.refl _ _ | (refine Below.setCell ?_ (by first | omega | (simp; done) | (simp; omega)) _) | apply below_drewN | apply Below.drew | (refine Below.alloc ?_ (by first | omega | (simp; done) | (simp; omega)) _)))⟩
        case measure => simp [intOf]; omega
      · have HS := Lib.hid (wkF_no hg)
        generalize wkF xs k = m at *
        generalize xs.getD k zSection = x at *
        generalize xs.getD m zSection = y at *
        obtain ⟨x0, x1⟩ := x
        obtain ⟨y0, y1⟩ := y
        obtain ⟨p0, p1⟩ := p
        obtain ⟨q0, q1⟩ := q
        simp only at p0 p1 q0 q1 hg
        go_wp2
        go_quiet (fail)
        go_wp2
        go_roundw
        case rel => exact ⟨k + 1, by omega, by go_num, by rw [HS.out], (by repeat (first | assumption | exact Below.refl _ _ | (refine Below.setCell ?_ (by first | omega | (simp; done) | (simp; omega)) _) | apply below_drewN | apply Below.drew | (refine Below.alloc ?_ (by first | omega | (simp; done) | (simp; omega)) _)))⟩
        case measure => simp [intOf]; omega
    · obtain rfl : k = n := by omega
      go_wp2
      go_ret
      exact ⟨rfl, (by repeat (first | assumption | exact Below.refl _ _ | (refine Below.setCell ?_ (by first | omega | (simp; done) | (simp; omega)) _) | apply below_drewN | apply Below.drew | (refine Below.alloc ?_ (by first | omega | (simp; done) | (simp; omega)) _)))⟩

set_option maxHeartbeats 800000 in
theorem lowestCrest_t (A : Option Addr) (n c : Nat) (xs : List RSection) (w : World) (hn : n ≤ 1048576) (h0 : 0 < n) (ha : Rd_Section w w.heap.size A n xs) :
    Calls Try.prog 65 #[.slice A n c] w fun e w' => e = .returned (.int .i64 (xs.getD (wkF xs n) zSection).f1) ∧ Below w.heap.size w w' := by
  have HA := Lib.hid ha
  have hwl := wkF_lt xs n h0
  obtain ⟨ab, o, rfl, hbB, hc⟩ := ha.at (by omega)
  have q := hc (wkF xs n) hwl
  clear hc ha
  have HW := Lib.hid (fun W (hW : Rd_Section W W.heap.size (some ⟨ab, o, none⟩) n xs) => weakestI_t (some ⟨ab, o, none⟩) n c xs W hn h0 hW)
  generalize wkF xs n = m at *
  generalize xs.getD m zSection = y at *
  obtain ⟨y0, y1⟩ := y
  obtain ⟨q0, q1⟩ := q
  simp only at q0 q1
  go_enter Try.func65, Try.ntmps65
  go_wp2_with (first | (go_at_call 62; refine (HW.out _ ((HA.out.below (by repeat (first | assumption | exact Below.refl _ _ | (refine Below.setCell ?_ (by first | omega | (simp; done) | (simp; omega)) _) | apply below_drewN | apply Below.drew | (refine Below.alloc ?_ (by first | omega | (simp; done) | (simp; omega)) _)))).mono (by first | omega | (simp; done) | (simp; omega)))).mono ?_; rintro e1 W1 ⟨rfl, b1⟩; have z1 : W1.cell? ⟨ab, o + m * 2 + 1, none⟩ = _ := (b1.cell (p := ⟨ab, o + m * 2 + 1, none⟩) hbB).trans q1))
  go_ret
  exact ⟨rfl, (by repeat (first | assumption | exact Below.refl _ _ | (refine Below.trans ?_ (b1.mono (by first | omega | (simp; done) | (simp; omega)))) | (refine Below.setCell ?_ (by first | omega | (simp; done) | (simp; omega)) _) | apply below_drewN | apply Below.drew | (refine Below.alloc ?_ (by first | omega | (simp; done) | (simp; omega)) _)))⟩

end Go.Proofs.Ytagnhlcgfcppjaa
