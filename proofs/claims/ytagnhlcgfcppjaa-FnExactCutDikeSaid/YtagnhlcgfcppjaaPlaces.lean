/- Dikes: the sections where they stand: places, the place with a metre. -/
import Derived.Test.YtagnhlcgfcppjaaDikeL
import Derived.Test.YtagnhlcgfcppjaaSearchD
import Derived.Deep.RegionHeld3
namespace Go.Proofs.Ytagnhlcgfcppjaa
open Go.RowKit

structure RPlace where
  g0 : Int
  g1 : Int
  g2 : Int
def encPl (x : RPlace) : List Value := [.int .i64 x.g0, .int .i64 x.g1, .int .i64 x.g2]
theorem encPl_len (x : RPlace) : (encPl x).length = 3 := rfl
def plAt (xs : List RSection) (k : Nat) : RPlace := ⟨(xs.getD k zSection).f0, (xs.getD k zSection).f1, lenN xs k⟩
def PlRow (w : World) (b o n : Nat) (xs : List RSection) : Prop := ∀ k, k < n → w.cell? ⟨b, o + k * 3, none⟩ = some (.int .i64 (xs.getD k zSection).f0) ∧ w.cell? ⟨b, o + k * 3 + 1, none⟩ = some (.int .i64 (xs.getD k zSection).f1) ∧ w.cell? ⟨b, o + k * 3 + 2, none⟩ = some (.int .i64 (lenN xs k))
theorem PlRow.below {w w' : World} {b o n B : Nat} {xs : List RSection} (h : PlRow w b o n xs) (hb : Below B w w') (hB : b < B) : PlRow w' b o n xs := fun k hk => by
  obtain ⟨h0, h1, h2⟩ := h k hk
  exact ⟨(hb.cell (p := ⟨b, _, none⟩) hB).trans h0, (hb.cell (p := ⟨b, _, none⟩) hB).trans h1, (hb.cell (p := ⟨b, _, none⟩) hB).trans h2⟩

theorem end_t (x0 x1 f s : Int) (w : World) (hs : wrap64 (f + x0) = s) :
    Calls Try.prog 74 #[.agg #[.int .i64 x0, .int .i64 x1, .int .i64 f]] w fun e w' => e = .returned (.int .i64 s) ∧ Below w.heap.size w w' := by
  have HS := Lib.hid hs
  clear hs
  go_enter Try.func74, Try.ntmps74
  go_wp2
  go_ret
  exact ⟨ret_int HS.out, (by repeat (first | assumption | exact Below.refl _ _ | (refine Below.setCell ?_ (by first | omega | (simp; done) | (simp; omega)) _) | apply below_drewN | apply Below.drew | (refine Below.alloc ?_ (by first | omega | (simp; done) | (simp; omega)) _)))⟩

theorem info_Place : (Try.prog.info? 71).map (fun i => (i.zero, i.size, i.bytes)) = some (some (.agg #[.int .i64 0, .int .i64 0, .int .i64 0]), 3, 24) := by kernel_rfl

set_option maxHeartbeats 1600000 in
theorem places_t (A : Option Addr) (n c : Nat) (xs : List RSection) (w : World) (hn : n ≤ 1048576) (ha : Rd_Section w w.heap.size A n xs) (h : DkOk n xs) :
    Calls Try.prog 85 #[.slice A n c] w fun e w' => ∃ b d, e = .returned (.slice (some ⟨b, 0, none⟩) n d) ∧ Below w.heap.size w w' ∧ w.heap.size ≤ b ∧ b < w'.heap.size ∧ PlRow w' b 0 n xs := by
  obtain ⟨i0, hi, hz0, hz1, hz2⟩ := info_parts info_Place
  have hmk := fun W => run_make_rowN (P := Try.prog) 94 71 i0 (.agg #[.int .i64 0, .int .i64 0, .int .i64 0]) Try.underlying94 hi hz0 .i64 .i64 n n (Nat.le_refl _) (by rw [hz2]; omega) (by omega) W
  rw [hz1] at hmk
  clear hi hz0 hz1 hz2
  have HA := Lib.hid ha
  have HK := Lib.hid h
  have h30 := h.2.2
  clear ha h
  go_enter Try.func85, Try.ntmps85
  go_wp2
  go_loopw [4, 5, 6, 12] (fun f _ _ i wr => ∃ k : Nat, k ≤ n ∧ i = .int .i64 (k : Int) ∧ f = .int .i64 (lenN xs k) ∧ Below w.heap.size w wr ∧ w.heap.size < wr.heap.size ∧ HalfR encPl 3 n w.heap.size 0 (plAt xs) (fun _ => ⟨0, 0, 0⟩) k wr) (fun _ _ _ i _ => n - (intOf i).toNat)
  case atStart => exact ⟨0, by omega, rfl, rfl, (Below.refl _ _).alloc (Nat.le_refl _) _, by simp, HalfR.new encPl_len _ _ _ _ _ _ rfl _ rfl (by omega)⟩
  case round =>
    obtain ⟨k, hk, rfl, rfl, hb, hs, hr⟩ := hrel
    by_cases hlt : k < n
    · obtain ⟨ab, o, rfl, hbB, hc⟩ := (HA.out.below hb).at (by omega)
      have p := hc k hlt
      clear hc
      have HS := Lib.hid (show lenN xs (k + 1) = lenN xs k + (xs.getD k zSection).f0 from rfl)
      have HP := Lib.hid (show plAt xs k = ⟨(xs.getD k zSection).f0, (xs.getD k zSection).f1, lenN xs k⟩ from rfl)
      obtain ⟨u1, u2⟩ := lenN_bd HK.out k hk
      have hd := HK.out.1 k hlt
      obtain ⟨x, hx⟩ := getZs xs k
      rw [← hx] at p HS hd HP
      clear hx
      obtain ⟨x0, x1⟩ := x
      obtain ⟨p0, p1⟩ := p
      obtain ⟨d0, d1, _, _⟩ := hd
      simp only at p0 p1 HS HP d0 d1
      obtain ⟨s, hs2⟩ : ∃ s, s = lenN xs k := ⟨_, rfl⟩
      rw [← hs2] at u1 u2 HS HP ⊢
      clear hs2
      have HW := Lib.hid (show wrap64 (s + x0) = lenN xs (k + 1) by rw [HS.out]; exact IntWalk.wrap64_in _ (by omega))
      obtain ⟨m0, n0⟩ := hr k hlt 0 (by omega)
      obtain ⟨m1, n1⟩ := hr k hlt 1 (by omega)
      obtain ⟨m2, n2⟩ := hr k hlt 2 (by omega)
      rw [if_neg (Nat.lt_irrefl k)] at m0 m1 m2
      simp only [encPl, Nat.zero_add, Nat.add_zero] at m0 n0 m1 n1 m2 n2
      have HR := Lib.hid hr
      have hne : w.heap.size ≠ wr.heap.size := by omega
      clear hr
      go_wp2_with (first | (go_at_call 74; refine (end_t _ _ _ _ _ HW.out).mono ?_; rintro e1 W1 ⟨rfl, b1⟩))
      go_roundw
      case rel => exact ⟨k + 1, by omega, by go_num, rfl, (by repeat (first | assumption | exact Below.refl _ _ | (refine Below.trans ?_ (b1.mono (by first | omega | (simp; done) | (simp; omega)))) | (refine Below.trans ?_ (hb.mono (by first | omega | (simp; done) | (simp; omega)))) | (refine Below.setCell ?_ (by first | omega | (simp; done) | (simp; omega)) _) | apply below_drewN | apply Below.drew | (refine Below.alloc ?_ (by first | omega | (simp; done) | (simp; omega)) _))), by have := b1.size; simp at this; omega, by
        have h2 := HR.out.step encPl_len hlt _ (show [Value.int .i64 x0, .int .i64 x1, .int .i64 s] = encPl (plAt xs k) by rw [HP.out]; rfl)
        simp only [Nat.zero_add] at h2
        intro j hj i hi
        obtain ⟨q1, q2⟩ := h2 j hj i hi
        have hz2 : w.heap.size < (putC wr w.heap.size (k * 3) [Value.int .i64 x0, .int .i64 x1, .int .i64 s]).heap.size := by rw [putC_size]; exact hs
        have b2 := (Below.refl (putC wr w.heap.size (k * 3) [Value.int .i64 x0, .int .i64 x1, .int .i64 s]).heap.size (putC wr w.heap.size (k * 3) [Value.int .i64 x0, .int .i64 x1, .int .i64 s])).alloc (Nat.le_refl _) (.cells #[.int .i64 x0, .int .i64 x1] 58)
        have hz3 := b1.size
        exact ⟨(b1.cell (p := ⟨w.heap.size, _, none⟩) (by simp; omega)).trans ((b2.cell (p := ⟨w.heap.size, _, none⟩) hz2).trans q1), (b1.frozen (p := ⟨w.heap.size, _, none⟩) (by simp; omega)).trans ((b2.frozen (p := ⟨w.heap.size, _, none⟩) hz2).trans q2)⟩⟩
      case measure => simp [intOf]; omega
    · obtain rfl : k = n := by omega
      go_wp2
      go_ret
      refine ⟨_, _, rfl, hb, Nat.le_refl _, hs, fun j hj => ?_⟩
      have m0 := (hr j hj 0 (by omega)).1
      have m1 := (hr j hj 1 (by omega)).1
      have m2 := (hr j hj 2 (by omega)).1
      rw [if_pos hj] at m0 m1 m2
      exact ⟨m0, m1, m2⟩

end Go.Proofs.Ytagnhlcgfcppjaa
