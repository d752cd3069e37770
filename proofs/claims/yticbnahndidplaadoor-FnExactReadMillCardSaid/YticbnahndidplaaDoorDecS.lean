/- The model's decimal of a number. -/
import Derived.Test.YticbnahndidplaaDoorBytes
namespace Go.Proofs.YticbnahndidplaaDoor
open Go.RowKit

def I64 (n : Int) : Prop := -9223372036854775808 ≤ n ∧ n ≤ 9223372036854775807

set_option maxRecDepth 100000 in
set_option maxHeartbeats 400000 in
theorem dec_spec (n : Int) (w : World) (hn : I64 n) :
    Calls Tryd.prog 64 #[.int .i64 n] w fun e w' => e = .returned (.string ⟨(Lib.itoa n).toArray⟩) ∧ Below w.heap.size w w' := by
  have HN := Lib.hid hn
  clear hn
  go_enter Tryd.func64, Tryd.ntmps64
  go_wp2
  go_loopw [3, 4, 5] (fun v kk _ wr => ∃ (k : Int) (L : List UInt8), kk = .int .i64 k ∧ Hid (I64 k ∧ (k < 0 → n < 0) ∧ (0 < k → 0 ≤ n) ∧ digs n.natAbs = digs k.natAbs ++ L) ∧ L.length ≤ 40 ∧ Below w.heap.size w wr ∧ w.heap.size ≤ wr.heap.size ∧ v ≠ .slice none 0 0 ∧ wr.ownsRow w.heap.size 5 1 v L.length (L.map byteV)) (fun _ kk _ _ => (intOf kk).natAbs)
  case atStart => exact ⟨n, [], rfl, ⟨HN.out, fun h => h, fun h => by omega, by simp⟩, by simp, (Below.refl _ _).alloc (Nat.le_refl _) _, by simp, by simp, World.ownsRow_made _ _ _ (Nat.le_refl _) (by simp [maxLen]) rfl⟩
  case round =>
    obtain ⟨k, L, rfl, hk, hL, hb, hz, hne, hown⟩ := hrel
    by_cases h0 : k = 0
    · subst h0
      have hL2 : digs n.natAbs = L := by rw [hk.out.2.2.2]; rfl
      have HL := Lib.hid hL2
      clear hL2
      obtain ⟨g, cap, rfl⟩ := own_form hown hne
      have hcv := run_convert_bytes_back (P := Tryd.prog) wr 101 9 5 ⟨g, 0, none⟩ cap L Tryd.underlying101 Tryd.underlying5 Tryd.underlying9 (fun j hj => hown.cells rfl j _ (by simp [hj, byteV]))
      by_cases hn0 : n = 0
      · have hi : (48 :: []) = Lib.itoa n := by
          rw [hn0]
          unfold Lib.itoa
          rw [if_neg (by omega)]
          show _ = Lib.decDigits 0
          rw [Lib.decDigits, dif_pos (by omega)]
          rfl
        have hl0 : L.length = 0 := by rw [← HL.out, hn0]; rfl
        have HI := Lib.hid hi
        have hl1 : ((L.length : Int) == 0) = true := by rw [hl0]; rfl
        clear hi hn0 hl0
        go_wp2
        go_ret
        exact ⟨by rw [← HI.out]; rfl, hb⟩
      · have hN : n.natAbs ≠ 0 := by omega
        have hLd : L = Lib.decDigits n.natAbs := by rw [← HL.out]; exact if_neg hN
        have hl1 : ((L.length : Int) == 0) = false := by
          rw [hLd, Lib.decDigits]
          split <;> simp
          omega
        by_cases hs : n < 0
        · have hi : Lib.itoa n = 45 :: L := by unfold Lib.itoa; rw [if_pos hs, hLd]
          have HI := Lib.hid hi
          clear hi hLd
          go_wp2
          go_ret
          exact ⟨ret_str (by rw [HI.out]; apply bytes_ext; simp), hb⟩
        · have hi : Lib.itoa n = L := by unfold Lib.itoa; rw [if_neg hs, hLd]; congr 1; omega
          have HI := Lib.hid hi
          clear hi hLd
          go_wp2
          go_ret
          exact ⟨ret_str (by rw [HI.out]), hb⟩
    · by_cases hs : 0 < k
      · obtain ⟨m, rfl⟩ : ∃ m : Nat, k = m := ⟨k.toNat, by omega⟩
        have h0' : ((m : Int) != 0) = true := by simpa using h0
        have hm : (m : Int) ≤ 9223372036854775807 := hk.out.1.2
        have hm1 : 0 ≤ (m : Int) % 10 := by omega
        have hm2 : (m : Int) % 10 ≤ 9 := by omega
        go_wp2_with (at_builtin; refine wpl_pre rfl _ _ rfl _ _ _ _ _ (UInt8.ofNat (48 + m % 10)) _ (by rw [digit_byte]; omega) rfl (by exact hown) hne rfl (by omega) hz ?_; intro v1 w1 hown1 hne1 hb1 hz1)
        go_roundw
        case rel =>
          have hd : digs n.natAbs = digs (m / 10) ++ UInt8.ofNat (48 + m % 10) :: L := by
            rw [hk.out.2.2.2, Int.natAbs_natCast, digs_step m (by omega)]
            simp
          have hl := digs_len n.natAbs (by have := HN.out.1; have := HN.out.2; omega)
          rw [hd, List.length_append] at hl
          refine ⟨((m / 10 : Nat) : Int), UInt8.ofNat (48 + m % 10) :: L, by go_num, ⟨⟨by omega, by omega⟩, fun h => by omega, fun _ => hk.out.2.2.1 hs, ?_⟩, ?_, hb.trans hb1, Nat.le_trans hz hz1, hne1, hown1⟩
          · rw [Int.natAbs_natCast]; exact hd
          · omega
        case measure => simp [intOf]; omega
      · obtain ⟨m, rfl⟩ : ∃ m : Nat, k = -(m : Int) := ⟨k.natAbs, by omega⟩
        have h0' : ((-(m : Int)) != 0) = true := by simpa using h0
        have hm : (m : Int) ≤ 9223372036854775808 := by have := hk.out.1.1; omega
        have hmm : 0 < m := by omega
        have hm1 : 0 ≤ (m : Int) % 10 := by omega
        have hm2 : (m : Int) % 10 ≤ 9 := by omega
        have hd : digs n.natAbs = digs (m / 10) ++ UInt8.ofNat (48 + m % 10) :: L := by
          rw [hk.out.2.2.2, Int.natAbs_neg, Int.natAbs_natCast, digs_step m (by omega)]
          simp
        have hl := digs_len n.natAbs (by have := HN.out.1; have := HN.out.2; omega)
        rw [hd, List.length_append] at hl
        have HD := Lib.hid hd
        clear hd
        by_cases hp : 0 < (m : Int) % 10
        all_goals
          go_wp2_with (at_builtin; refine wpl_pre rfl _ _ rfl _ _ _ _ _ (UInt8.ofNat (48 + m % 10)) _ (by rw [digit_byte]; omega) rfl (by exact hown) hne rfl (by omega) hz ?_; intro v1 w1 hown1 hne1 hb1 hz1)
          go_roundw
          case rel =>
            refine ⟨-((m / 10 : Nat) : Int), UInt8.ofNat (48 + m % 10) :: L, by go_num, ⟨⟨by omega, by omega⟩, fun h => hk.out.2.1 (by omega), fun h => by omega, ?_⟩, by omega, hb.trans hb1, Nat.le_trans hz hz1, hne1, hown1⟩
            rw [Int.natAbs_neg, Int.natAbs_natCast]
            exact HD.out
          case measure => simp [intOf]; omega


end Go.Proofs.YticbnahndidplaaDoor
