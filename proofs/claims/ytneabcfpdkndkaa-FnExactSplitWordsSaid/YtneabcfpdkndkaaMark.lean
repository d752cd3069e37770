/- markText, markStringS, heldStringS of the laws. -/
import Derived.Test.YtneabcfpdkndkaaStrs
import Derived.Test.YtneabcfpdkndkaaBytes
import Derived.Deep.RegionHeld3
namespace Go.Proofs.Ytneabcfpdkndkaa
open Go.RowKit

theorem below_drewM {B : Nat} {w w' : World} (h : Below B w.drew w') : Below B w w' := ⟨h.os, h.tape, h.output, h.size, h.block⟩
def mtF : Nat → Nat → ByteArray → ByteArray
  | 0, _, o => o
  | d + 1, k, o => if 0 < k then mtF d (k / 10) (⟨[UInt8.ofNat (48 + k % 10)].toArray⟩ ++ o) else o
def mtx (k : Nat) : ByteArray := ⟨#[109]⟩ ++ mtF 10 k ⟨#[]⟩

set_option maxRecDepth 100000 in
set_option maxHeartbeats 1600000 in
theorem markText_t (k : Nat) (w : World) (h0 : 0 < k) (hk : k ≤ 9999999) :
    Calls Try.prog 65 #[.int .i64 (k : Int)] w fun e w' => e = .returned (.string (mtx k)) ∧ Below w.heap.size w w' := by
  have hk0 : (0 : Int) < (k : Int) := by omega
  obtain ⟨R, hR⟩ : ∃ R, R = mtF 10 k ⟨#[]⟩ := ⟨_, rfl⟩
  have HM := Lib.hid (show mtx k = ⟨#[109]⟩ ++ R by rw [hR]; rfl)
  have HR := Lib.hid hR.symm
  clear hR
  go_enter Try.func65, Try.ntmps65
  go_wp2
  go_loopw [0, 3] (fun kk oo wr => ∃ (d m : Nat) (o : ByteArray), kk = .int .i64 (m : Int) ∧ oo = .string o ∧ m < 10 ^ d ∧ m ≤ 9999999 ∧ Hid (mtF d m o = R) ∧ o.size + d ≤ 10 ∧ Below w.heap.size w wr) (fun kk _ _ => (intOf kk).toNat)
  case atStart => exact ⟨10, k, ⟨#[]⟩, rfl, rfl, by omega, hk, HR.out, by decide, Below.refl _ _⟩
  case round =>
    obtain ⟨d, m, o, rfl, rfl, hm, hm9, HF, ho, hb⟩ := hrel
    by_cases hm0 : 0 < m
    · have hm1 : (0 : Int) < (m : Int) := by omega
      obtain ⟨d, rfl⟩ : ∃ q, d = q + 1 := ⟨d - 1, by
        cases d with
        | zero => simp at hm; omega
        | succ d => rfl⟩
      have hmd : m / 10 < 10 ^ d := by rw [Nat.pow_succ] at hm; omega
      have HF2 := Lib.hid (show mtF d (m / 10) (⟨[UInt8.ofNat (48 + m % 10)].toArray⟩ ++ o) = R by have := HF.out; rw [mtF, if_pos hm0] at this; exact this)
      have hdig := digit_byte m
      have hcv : (convert 118 9 (.slice (some ⟨wr.heap.size, 0, none⟩) 1 1)).run Try.prog (wr.alloc (.cells #[.int .u8 (48 + (m : Int) % 10)] 5)) = .ok (.string ⟨[UInt8.ofNat (48 + m % 10)].toArray⟩) (wr.alloc (.cells #[.int .u8 (48 + (m : Int) % 10)] 5)) :=
        run_convert_bytes_back (P := Try.prog) (wr.alloc (.cells #[.int .u8 (48 + (m : Int) % 10)] 5)) 118 9 5 ⟨wr.heap.size, 0, none⟩ 1 [UInt8.ofNat (48 + m % 10)] Try.underlying118 Try.underlying5 Try.underlying9 (fun j hj => by
          obtain rfl : j = 0 := by simp at hj; omega
          rw [show ((⟨wr.heap.size, 0, none⟩ : Addr).add 0) = ⟨wr.heap.size, 0, none⟩ from rfl]
          simp
          omega)
      have hos : o.size ≤ 10 := by omega
      have hms : (m : Int) % 10 ≤ 9 := by omega
      have hms0 : 0 ≤ (m : Int) % 10 := by omega
      clear hdig HF
      go_wp2
      exact ⟨⟨d, m / 10, _, by rw [show ((m / 10 : Nat) : Int) = (m : Int) / 10 by omega], rfl, hmd, by omega, Lib.hid (by have := HF2.out; simpa using this), by rw [ByteArray.size_append]; show 1 + o.size + d ≤ 10; omega, hb.alloc hb.size _⟩, by simp [intOf]; omega⟩
    · obtain rfl : m = 0 := by omega
      have HE := Lib.hid (show o = R by have := HF.out; cases d <;> simpa [mtF] using this)
      have hos : o.size ≤ 10 := by omega
      go_wp2
      go_ret
      exact ⟨ret_str (by rw [HM.out, HE.out]), hb⟩

set_option maxHeartbeats 1600000 in
theorem markS_t (A : Option Addr) (base n c k0 : Nat) (xs : List ByteArray) (w : World) (h0 : 0 < k0) (hk : k0 + n ≤ 9999999) (hB : base ≤ w.heap.size) (ha : WrS w base A n xs) :
    Calls Try.prog 31 #[.slice A n c, .int .i64 (k0 : Int)] w fun e w' => e = .returned (.int .i64 ((k0 + n : Nat) : Int)) ∧ Below base w w' ∧ ∃ ys, WrS w' base A n ys ∧ ∀ j, j < n → ys.getD j ⟨#[]⟩ = mtx (k0 + j) := by
  have HA := Lib.hid ha
  clear ha
  go_enter Try.func31, Try.ntmps31
  go_wp2
  go_loopw [1, 5] (fun kk i wr => ∃ (q : Nat) (ys : List ByteArray), q ≤ n ∧ i = .int .i64 (q : Int) ∧ kk = .int .i64 ((k0 + q : Nat) : Int) ∧ base ≤ wr.heap.size ∧ Below base w wr ∧ Hid (WrS wr base A n ys ∧ ∀ j, j < q → ys.getD j ⟨#[]⟩ = mtx (k0 + j))) (fun _ i _ => n - (intOf i).toNat)
  case atStart => exact ⟨0, xs, by omega, rfl, rfl, hB, Below.refl _ _, HA.out, fun j hj => by omega⟩
  case round =>
    obtain ⟨q, ys, hq, rfl, rfl, hz, hb, HW⟩ := hrel
    by_cases hlt : q < n
    · have hlt2 : (q : Int) < (n : Int) := by omega
      go_wp2_with fail
      refine (markText_t (k0 + q) wr (by omega) (by omega)).mono ?_
      rintro e1 W1 ⟨rfl, b1⟩
      have HW1 := Lib.hid (HW.out.1.below b1)
      have hz1 := b1.size
      obtain ⟨bb, oo, rfl, hbb, hbl, hc⟩ := HW1.out.2 (by omega)
      obtain ⟨c1, f1⟩ := hc q hlt
      have HL := Lib.hid HW1.out.1
      have hb2 : Below base w W1 := hb.trans (b1.mono hz)
      clear hc
      go_wp2
      go_roundw
      case rel => exact ⟨q + 1, ys.set q (mtx (k0 + q)), by omega, by go_num, by rw [show ((k0 + (q + 1) : Nat) : Int) = (k0 : Int) + (q : Int) + 1 by omega], by simp [World.setCell]; omega, hb2.setCell hbb _, HW1.out.put hlt _, fun j hj => by
        rw [getD_setS _ _ _ _ (by have := HL.out; omega)]
        by_cases e : j = q
        · rw [if_pos e, e]
        · rw [if_neg e]; exact HW.out.2 j (by omega)⟩
      case measure => simp [intOf]; omega
    · obtain rfl : q = n := by omega
      go_wp2
      go_ret
      exact ⟨rfl, hb, ys, HW.out.1, HW.out.2⟩

set_option maxHeartbeats 1600000 in
theorem heldS_t (A : Option Addr) (n c k0 : Nat) (ys : List ByteArray) (w : World) (h0 : 0 < k0) (hk : k0 + n ≤ 9999999) (ha : RdS w w.heap.size A n ys) (hy : ∀ j, j < n → ys.getD j ⟨#[]⟩ = mtx (k0 + j)) :
    Calls Try.prog 32 #[.slice A n c, .int .i64 (k0 : Int)] w fun e w' => e = .returned (.int .i64 ((k0 + n : Nat) : Int)) ∧ Below w.heap.size w w' := by
  have HA := Lib.hid ha
  have HY := Lib.hid hy
  clear ha hy
  go_enter Try.func32, Try.ntmps32
  go_wp2
  go_loopw [1, 5] (fun kk i wr => ∃ (q : Nat), q ≤ n ∧ i = .int .i64 (q : Int) ∧ kk = .int .i64 ((k0 + q : Nat) : Int) ∧ Below w.heap.size w wr) (fun _ i _ => n - (intOf i).toNat)
  case atStart => exact ⟨0, by omega, rfl, rfl, Below.refl _ _⟩
  case round =>
    obtain ⟨q, hq, rfl, rfl, hb⟩ := hrel
    by_cases hlt : q < n
    · have hlt2 : (q : Int) < (n : Int) := by omega
      obtain ⟨bb, oo, rfl, hbb, hc⟩ := (HA.out.below hb).2 (by omega)
      have c1 := hc q hlt
      rw [HY.out q hlt] at c1
      generalize hM : mtx (k0 + q) = M at c1
      have HM := Lib.hid hM
      have hz := hb.size
      clear hc hM
      go_wp2_with fail
      go_region_held3 (fun w' => w'.cell? ⟨bb, oo + q, none⟩ = some (.string M)) (first | exact c1 | go_keep) ((go_at_call 65; refine (markText_t (k0 + q) _ (by omega) (by omega)).mono ?_; rintro e1 W1 ⟨rfl, b1⟩; rw [HM.out]; have c2 := (b1.cell (p := ⟨bb, oo + q, none⟩) (Nat.lt_of_lt_of_le hbb hz)).trans c1))
      all_goals (go_wp2; exact ⟨⟨q + 1, by omega, by rw [show ((q + 1 : Nat) : Int) = (q : Int) + 1 by omega], by rw [show ((k0 + (q + 1) : Nat) : Int) = (k0 : Int) + (q : Int) + 1 by omega], hb.trans (below_drewM (b1.mono hz))⟩, by simp [intOf]; omega⟩)
    · obtain rfl : q = n := by omega
      go_wp2
      go_ret
      exact ⟨rfl, hb⟩

end Go.Proofs.Ytneabcfpdkndkaa
