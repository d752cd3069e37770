/- Days: the sums of the amounts, the volumes after each day: of the program. -/
import Derived.Test.YtfpfmfhhcgafcabDoorWatL
import Derived.Test.YtfpfmfhhcgafcabDoorOwnS
import Derived.Test.YtfpfmfhhcgafcabDoorOpen
namespace Go.Proofs.YtfpfmfhhcgafcabDoor
open Go.RowKit

theorem Half.belowW {n b o : Nat} {f : Nat → Int} {xs : List Int} {k B : Nat} {w w' : World} (h : Half n b o f xs k w) (hb : Below B w w') (hB : b < B) : Half n b o f xs k w' := fun j hj => by
  obtain ⟨h1, h2⟩ := h j hj
  exact ⟨(hb.cell (p := ⟨b, o + j, none⟩) hB).trans h1, (hb.frozen (p := ⟨b, o + j, none⟩) hB).trans h2⟩
theorem wa_small {x0 x1 x2 x3 x4 : Int} (h : waOk x0 x1 x2 x3 x4) : 0 ≤ x0 ∧ x0 ≤ 10000000000 ∧ 0 ≤ x1 ∧ x1 ≤ 10000000000 ∧ 0 ≤ x2 ∧ x2 ≤ 10000000000 ∧ 0 ≤ x3 ∧ x3 ≤ 10000000000 ∧ 0 ≤ x4 ∧ x4 ≤ 10000000000 := by
  obtain ⟨h0, h1, h2, h3, h4⟩ := h
  omega

set_option maxHeartbeats 1600000 in
/-- make and fill: the volumes after each day -/
theorem volsI_t (s : Int) (A : Option Addr) (n c : Nat) (xs : List RWater) (w : World) (ha : Rd_Water w w.heap.size A n xs) (hv : waList n xs) (hs : volOk s) (L : List Int) (hL : L = rowW (fun k => volW s xs (k + 1)) n) :
    Calls Tryd.prog 28 #[.slice A n c, .int .i64 s] w fun e w' => ∃ B d, e = .returned (.slice B n d) ∧ Below w.heap.size w w' ∧ Wr w' w.heap.size B n L := by
  have HA := Lib.hid ha
  have HV := Lib.hid hv.1
  have h100 := hv.2
  have HL := Lib.hid hL
  have HS := Lib.hid (volW_bd hv.1 s)
  obtain ⟨v1, v2⟩ := hs
  obtain ⟨i0, hi, hz0, hz1, hz2⟩ := info_parts info_i64
  have hmk := fun W => run_make_rowN (P := Tryd.prog) 22 2 i0 (.int .i64 0) Tryd.underlying22 hi hz0 .i64 .i64 n n (Nat.le_refl _) (by rw [hz2]; omega) (by omega) W
  rw [hz1] at hmk
  obtain ⟨cs, hcs⟩ : ∃ cs, cs = madeCells (Value.int .i64 0).cells (n * 1) := ⟨_, rfl⟩
  rw [← hcs] at hmk
  have hN := Lib.hid (show Half n w.heap.size 0 (fun k => volW s xs (k + 1)) (List.replicate n 0) 0 (w.alloc (.cells cs 2)) by rw [hcs]; exact Half.new w n _ _ (n * 1) (by omega))
  clear ha hv hL hi hz0 hz1 hz2 hcs
  go_enter Tryd.func28, Tryd.ntmps28
  go_wp2
  go_loopw [6, 7, 8, 15] (fun v _ _ i wr => ∃ k : Nat, k ≤ n ∧ i = .int .i64 (k : Int) ∧ v = .int .i64 (volW s xs k) ∧ Below w.heap.size w wr ∧ w.heap.size < wr.heap.size ∧ Hid (Half n w.heap.size 0 (fun k => volW s xs (k + 1)) (List.replicate n 0) k wr)) (fun _ _ _ i _ => n - (intOf i).toNat)
  case atStart => exact ⟨0, by omega, rfl, rfl, (Below.refl _ _).alloc (Nat.le_refl _) _, by simp, hN.out⟩
  case round =>
    obtain ⟨k, hk, rfl, rfl, hb, hz, hH⟩ := hrel
    by_cases hlt : k < n
    · obtain ⟨ab, o, rfl, hbB, hc⟩ := (HA.out.below hb).at (by omega)
      have p := hc k hlt
      clear hc
      have hw := HV.out k hlt
      have hbd := HS.out (k + 1) (by omega)
      have HF := Lib.hid (show volW s xs (k + 1) = volW s xs k + netW (xs.getD k zWater) from rfl)
      obtain ⟨x, hx⟩ := getZW xs k
      rw [← hx] at p hw HF
      clear hx
      obtain ⟨x0, x1, x2, x3, x4⟩ := x
      have HW := Lib.hid (wa_small hw)
      obtain ⟨p0, p1, p2, p3, p4⟩ := p
      simp only at p0 p1 p2 p3 p4
      obtain ⟨m, hm⟩ : ∃ m, m = netW ⟨x0, x1, x2, x3, x4⟩ := ⟨_, rfl⟩
      have HM := Lib.hid hm
      rw [← hm] at HF
      clear hm hw
      obtain ⟨y, hy⟩ : ∃ y, y = volW s xs k := ⟨_, rfl⟩
      rw [← hy] at HF ⊢
      have hf := HF.out
      have f0 := IntWalk.i64_in (y + m) (by rw [← hf]; push_cast at hbd; omega)
      have HY := Lib.hid (show y + m = volW s xs (k + 1) from hf.symm)
      clear hf hbd hy HF
      go_wp2_with (go_at_call 45; refine (netI_t x0 x1 x2 x3 x4 _ HW.out m HM.out).mono ?_; rintro e1 w1 ⟨rfl, b1⟩; have d1 : Below wr.heap.size wr w1 := (by repeat (first | assumption | exact Below.refl _ _ | (refine Below.trans ?_ (b1.mono (by first | omega | (simp; done) | (simp; omega)))) | (refine Below.setCell ?_ (by first | omega | (simp; done) | (simp; omega)) _) | apply below_drewN | apply Below.drew | (refine Below.alloc ?_ (by first | omega | (simp; done) | (simp; omega)) _))); have h1 := hH.out.belowW d1 hz; obtain ⟨g1, g2⟩ := h1 k hlt; rw [Nat.zero_add] at g1 g2; have z1 := d1.size)
      go_roundw
      case rel => exact ⟨k + 1, by omega, by go_num, by rw [HY.out], (hb.trans (d1.mono (by omega))).setCell (Nat.le_refl _) _, by simp [World.setCell]; omega, by have := h1.step (y + m) HY.out; rw [Nat.zero_add] at this; exact this⟩
      case measure => simp [intOf]; omega
    · obtain rfl : k = n := by omega
      have hw := hH.out.done (base := w.heap.size) (ys := L) (by rw [HL.out, rowW_len]) (fun j hj => by rw [HL.out]; exact rowW_at _ k j hj) (Nat.le_refl _) hz
      go_wp2
      go_ret
      first
      | exact ⟨_, _, rfl, hb, hw⟩
      | exact ⟨_, ⟨_, rfl⟩, hb, hw⟩

end Go.Proofs.YtfpfmfhhcgafcabDoor
