/- The walk of the law on SplitWords. -/
import Derived.Test.YtneabcfpdkndkaaWords
import Derived.Test.YtneabcfpdkndkaaMark
namespace Go.Proofs.Ytneabcfpdkndkaa
open Go.RowKit

set_option maxRecDepth 100000 in
set_option maxHeartbeats 6400000 in
theorem law_SplitWords (a0 : ByteArray) (w : World) (hs : a0.size ≤ 1048576) :
    Calls Try.prog 6 #[.string a0] w fun e w' => e = .returned (.bool true) ∧ Below w.heap.size w w' := by
  have hl := wordsOf_len a0
  have hs1 : (a0.size : Int) ≤ 1048576 := by omega
  have HS := Lib.hid (show ∀ W : World, Calls Try.prog 28 #[.string a0] W fun e w' => ∃ A c, e = .returned (.slice A (wordsOf a0).length c) ∧ Below W.heap.size W w' ∧ WrS w' W.heap.size A (wordsOf a0).length (wordsOf a0) from fun W => specC_SplitWords a0 W hs)
  have HI := Lib.hid (show ∀ W : World, Calls Try.prog 29 #[.string a0] W fun e w' => ∃ A c, e = .returned (.slice A (wordsOf a0).length c) ∧ Below W.heap.size W w' ∧ WrS w' W.heap.size A (wordsOf a0).length (wordsOf a0) from fun W => implC_SplitWords a0 W hs)
  obtain ⟨G, hG⟩ : ∃ G, G = wordsOf a0 := ⟨_, rfl⟩
  rw [← hG] at HS HI hl
  obtain ⟨n, hn⟩ : ∃ n, n = G.length := ⟨_, rfl⟩
  rw [← hn] at HS HI hl
  have hn9 : n ≤ 1048577 := by omega
  clear hG hn hl
  go_enter Try.func6, Try.ntmps6
  go_wp2_with fail
  refine (HS.out _).mono ?_
  rintro e1 W1 ⟨Aw, cw, rfl, b1, hw1⟩
  have R1 := Lib.hid hw1.rd
  clear hw1
  go_wp2_with fail
  refine (HI.out _).mono ?_
  rintro e2 W2 ⟨Ag, cg, rfl, b2, hw2⟩
  have G2 := Lib.hid hw2
  have R2 := Lib.hid (R1.out.below b2)
  have z2 := b2.size
  have d2 : Below w.heap.size w W2 := b1.trans (b2.mono b1.size)
  clear hw2
  go_wp2_with fail
  refine (eqS_t Ag n cg Aw cw G _ (by omega) G2.out.rd (R2.out.mono z2)).mono ?_
  rintro e3 W3 ⟨rfl, b3⟩
  have z3 := b3.size
  have G3 := Lib.hid (G2.out.below b3)
  have R3 := Lib.hid (R2.out.below (b3.mono z2))
  have d3 : Below w.heap.size w W3 := d2.trans (b3.mono d2.size)
  go_wp2_with fail
  refine (markS_t Ag W1.heap.size n cg 1 G _ (by omega) (by omega) (by omega) G3.out).mono ?_
  rintro e4 W4 ⟨rfl, b4, ys, hw4, hy⟩
  have z4 := b4.size
  have G4 := Lib.hid hw4
  have HY := Lib.hid hy
  have R4 := Lib.hid (R3.out.below b4)
  have d4 : Below w.heap.size w W4 := d3.trans (b4.mono b1.size)
  clear hw4 hy
  go_wp2_with fail
  refine (heldS_t Ag n cg 1 ys _ (by omega) (by omega) G4.out.rd HY.out).mono ?_
  rintro e5 W5 ⟨rfl, b5⟩
  have z5 := b5.size
  have G5 := Lib.hid (G4.out.below b5)
  have R5 := Lib.hid (R4.out.below (b5.mono (by omega)))
  have d5 : Below w.heap.size w W5 := d4.trans (b5.mono d4.size)
  go_wp2_with fail
  refine (HI.out _).mono ?_
  rintro e6 W6 ⟨Ah, ch, rfl, b6, hw6⟩
  have z6 := b6.size
  have H6 := Lib.hid hw6.rd
  have G6 := Lib.hid (G5.out.below b6)
  have R6 := Lib.hid (R5.out.below (b6.mono (by omega)))
  have d6 : Below w.heap.size w W6 := d5.trans (b6.mono d5.size)
  clear hw6
  go_wp2_with fail
  refine (eqS_t Ah n ch Aw cw G _ (by omega) H6.out (R6.out.mono (by omega))).mono ?_
  rintro e7 W7 ⟨rfl, b7⟩
  have G7 := Lib.hid (G6.out.below b7)
  have d7 : Below w.heap.size w W7 := d6.trans (b7.mono d6.size)
  go_wp2_with fail
  refine (heldS_t Ag n cg 1 ys _ (by omega) (by omega) G7.out.rd HY.out).mono ?_
  rintro e8 W8 ⟨rfl, b8⟩
  have d8 : Below w.heap.size w W8 := d7.trans (b8.mono d7.size)
  go_wp2
  go_ret
  exact ⟨rfl, d8⟩

set_option maxHeartbeats 1600000 in
theorem walk_FnExactSplitWords (a0 : ByteArray) (w : World) (wa0 : a0.size ≤ maxLen) :
    Calls Try.prog 6 #[.string a0] w fun e w' => e = .returned (.bool true) ∧ Below w.heap.size w w' := by
  unfold maxLen at wa0
  by_cases h : a0.size ≤ 1048576
  case neg =>
    have h2 : (1048576 : Int) < (a0.size : Int) := by omega
    go_enter Try.func6, Try.ntmps6
    go_wp2
    go_ret
    exact ⟨rfl, Below.refl _ _⟩
  exact law_SplitWords a0 w h

end Go.Proofs.Ytneabcfpdkndkaa
