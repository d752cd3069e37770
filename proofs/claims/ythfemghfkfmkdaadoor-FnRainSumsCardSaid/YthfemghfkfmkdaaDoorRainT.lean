/- The text of rain. -/
import Derived.Test.YthfemghfkfmkdaaDoorDecI
import Derived.Test.YthfemghfkfmkdaaDoorRainC
import Derived.Test.YthfemghfkfmkdaaDoorWFnExactLevelText
namespace Go.Proofs.YthfemghfkfmkdaaDoor
open Go.RowKit

def rainB (n : Int) : ByteArray := dS (n.toNat / 10) ++ ⟨#[46]⟩ ++ dS (n.toNat % 10) ++ ⟨#[109, 109]⟩
def rainT (n : Int) : ByteArray := if isRn n then rainB n else ByteArray.empty

theorem dec_implT (x : Int) (u : Nat) (w : World) (hx : x = (u : Int)) (hu : u ≤ 1000000000) (ht : PowTab w) :
    Calls Tryd.prog 23 #[.int .i64 x] w fun e w' => e = .returned (.string (dS u)) ∧ Below w.heap.size w w' := by
  subst hx
  have e : Lib.itoa (u : Int) = Lib.decDigits u := by
    unfold Lib.itoa
    rw [if_neg (by omega)]
    rfl
  have := dec_impl (u : Int) w ⟨by omega, by omega⟩ ht
  rw [e] at this
  exact this

set_option maxHeartbeats 400000 in
theorem itext_any (n : Int) (w : World) (ht : PowTab w) :
    Calls Tryd.prog 11 #[.int .i64 n] w fun e w' => e = .returned (.string (rainT n)) ∧ Below w.heap.size w w' := by
  have HT := Lib.hid ht
  clear ht
  by_cases h : isRn n
  · have E := Lib.hid (show rainT n = rainB n from if_pos h)
    have HO := Lib.hid h
    obtain ⟨h1, h2⟩ := h
    have E3 := Lib.hid (show n / 10 = ((n.toNat / 10 : Nat) : Int) by omega)
    have E4 := Lib.hid (show n % 10 = ((n.toNat % 10 : Nat) : Int) by omega)
    have z1 := dS_len (n.toNat / 10) (by omega)
    have z2 := dS_len (n.toNat % 10) (by omega)
    have HX := Lib.hid (show n.toNat ≤ 3000 by omega)
    go_enter Tryd.func11, Tryd.ntmps11
    go_wp2_with fail
    refine (isRain_t _ _ HO.out).mono ?_
    rintro e w0 ⟨rfl, rfl⟩
    go_wp2_with fail
    refine (dec_implT _ (n.toNat / 10) _ (by first | exact E3.out | omega) (by have := HX.out; omega) HT.out).mono ?_
    rintro e w1 ⟨rfl, b1⟩
    go_wp2_with fail
    refine (dec_implT _ (n.toNat % 10) _ (by first | exact E4.out | omega) (by have := HX.out; omega) (pow_below HT.out b1)).mono ?_
    rintro e w2 ⟨rfl, b2⟩
    go_wp2_with fail
    go_ret
    exact ⟨ret_str (by rw [E.out]; rfl), b1.trans (b2.mono b1.size)⟩
  · have E := Lib.hid (show rainT n = ByteArray.empty from if_neg h)
    have HO := Lib.hid h
    clear h
    go_enter Tryd.func11, Tryd.ntmps11
    go_wp2_with (first | (go_at_call 22; refine (isRain_f _ _ HO.out).mono ?_; rintro e w' ⟨rfl, rfl⟩))
    go_ret
    exact ⟨ret_str E.out.symm, Below.refl _ _⟩

end Go.Proofs.YthfemghfkfmkdaaDoor
