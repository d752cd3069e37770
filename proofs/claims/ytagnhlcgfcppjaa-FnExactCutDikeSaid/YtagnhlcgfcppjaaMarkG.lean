/- Marks of a row of sections: no other row is written. -/
import Derived.Test.YtagnhlcgfcppjaaRSection
namespace Go.Proofs.Ytagnhlcgfcppjaa
open Go.RowKit

set_option maxHeartbeats 800000 in
theorem markSectionS_g (lo hi : Nat) (A : Option Addr) (n c : Nat) (xs : List RSection) (k0 : Int) (w : World) (h1 : 0 ≤ k0) (h2 : k0 ≤ 140737488355328) (_hh : hi ≤ w.heap.size) (hn : n ≤ 1048576) (ha : Wr_Section w lo A n xs) (hL : Lt hi A n) :
    Calls Try.prog 31 #[.slice A n c, .int .i64 k0] w fun e w' => e = .returned (.int .i64 (k0 + 2 * (n : Int))) ∧ Chg lo hi w w' ∧ Wr_Section w' lo A n (marks_Section k0 n) ∧ ((w' = w ∧ n = 0) ∨ (0 < n ∧ w.grownBy w' (ablk A))) := by
  by_cases hz : n = 0
  · subst hz
    go_enter Try.func31, Try.ntmps31
    go_wp2
    go_loop [1, 5] (fun q i => i = .int .i64 0 ∧ q = .int .i64 k0) (fun _ _ => 0)
    case atStart => exact ⟨rfl, rfl⟩
    case round =>
      obtain ⟨rfl, rfl⟩ := hrel
      go_wp2
      go_ret
      exact ⟨ret_int (by simp), Chg.refl _ _ _, ⟨rfl, fun h => absurd h (by omega)⟩, (by first | rfl | exact .inl ⟨rfl, rfl⟩)⟩
  · obtain ⟨b, o, rfl, h0, hbB, hc⟩ := ha.2 (by omega)
    have hlen := ha.len
    have HL := Lib.hid hlen
    have HC : Hid (HalfR encSection 2 n b o (mkSection k0) (fun j => xs.getD j zSection) 0 w) := by
      intro j hj i hi
      show _ = (encSection (if j < 0 then mkSection k0 j else xs.getD j zSection))[i]? ∧ _
      rw [if_neg (Nat.not_lt_zero j), getDSection (by omega), ← flat_at encSection_len xs j i (by omega) hi]
      have := hc (j * 2 + i) (by rw [csSection_len]; omega)
      rw [← Nat.add_assoc] at this
      exact this
    have hbh : b < hi := hL (by omega) b rfl
    clear hc ha hL hlen
    go_enter Try.func31, Try.ntmps31
    go_wp2
    go_loopw [1, 5] (fun q i wr => ∃ k : Nat, k ≤ n ∧ i = .int .i64 (k : Int) ∧ q = .int .i64 (k0 + 2 * (k : Int)) ∧ w.grownBy wr (some b) ∧ HalfR encSection 2 n b o (mkSection k0) (fun j => xs.getD j zSection) k wr) (fun _ i _ => n - (intOf i).toNat)
    case atStart => exact ⟨0, by omega, rfl, by simp, World.grownBy.refl _ _, HC.out⟩
    case round =>
      obtain ⟨k, hk, rfl, rfl, hg, hr⟩ := hrel
      have HR := Lib.hid hr
      by_cases hlt : k < n
      · obtain ⟨m0, n0⟩ := hr k hlt 0 (by omega); rw [if_neg (Nat.lt_irrefl k)] at m0; simp only [encSection, Nat.add_zero] at m0 n0; obtain ⟨m1, n1⟩ := hr k hlt 1 (by omega); rw [if_neg (Nat.lt_irrefl k)] at m1; simp only [encSection, Nat.add_zero] at m1 n1
        clear hr
        go_wp2
        go_roundw
        case rel => exact ⟨k + 1, by omega, by go_num, by go_num, hg.trans (putC_gb [.int .i64 (k0 + 2 * (k : Int)), .int .i64 (k0 + 2 * (k : Int) + 1)] wr b (o + k * 2)), HR.out.step encSection_len hlt [.int .i64 (k0 + 2 * (k : Int)), .int .i64 (k0 + 2 * (k : Int) + 1)] (by simp [encSection, mkSection] <;> omega)⟩
        case measure => simp [intOf]; omega
      · clear hr
        go_wp2
        go_ret
        obtain rfl : k = n := by omega
        refine ⟨rfl, ?_, HR.out.done encSection_len (marks_Section_len _ _) (fun j hj => by rw [← getDSection hj, marks_Section_at _ _ _ (by rw [marks_Section_len] at hj; exact hj)]) h0 (Nat.lt_of_lt_of_le hbB hg.size), (by first | exact .inr ⟨by omega, hg⟩ | exact hg)⟩
        exact ⟨hg.os, hg.tape, hg.output, hg.size, fun i hi' hl => hg.block i hi' (fun e => by injection e with e; omega)⟩

theorem Wr_Section.marked {w w' : World} {lo n m : Nat} {A B : Option Addr} {xs : List RSection} (h : Wr_Section w lo B m xs) (hd : Dis A n B m) (hg : (w' = w ∧ n = 0) ∨ (0 < n ∧ w.grownBy w' (ablk A))) : Wr_Section w' lo B m xs := by
  rcases hg with ⟨rfl, _⟩ | ⟨hn, hg⟩
  · exact h
  · cases hA : ablk A with
    | none =>
      rw [hA] at hg
      refine ⟨h.1, fun h0 => ?_⟩
      obtain ⟨b, off, e, l0, hB, hc⟩ := h.2 h0
      exact ⟨b, off, e, l0, Nat.lt_of_lt_of_le hB hg.size, fun j hj => ⟨(World.cell?_of_block (hg.block b hB (by simp))).trans (hc j hj).1, (World.frozen?_of_block (hg.block b hB (by simp))).trans (hc j hj).2⟩⟩
    | some b => rw [hA] at hg; exact WrC.other h hg (fun hm e => hd hn hm (by rw [hA, e]))
theorem Dis.symm' {A B : Option Addr} {n m : Nat} (h : Dis A n B m) : Dis B m A n := fun h1 h2 e => h h2 h1 e.symm

end Go.Proofs.Ytagnhlcgfcppjaa
