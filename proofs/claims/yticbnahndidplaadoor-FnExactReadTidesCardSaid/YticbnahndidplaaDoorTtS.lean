/- The text of sections: l08Text of the model. -/
import Derived.Test.YticbnahndidplaaDoorTideJ
import Derived.Test.YticbnahndidplaaDoorDecS
import Derived.Test.YticbnahndidplaaDoorStrs
import Derived.Lib.ItoaLen
import Derived.Lib.Join
import Derived.Deep.RegionHeld3
namespace Go.Proofs.YticbnahndidplaaDoor
open Go.RowKit

def tdO (x : RTide) : Prop := 0 ≤ x.f0 ∧ x.f0 ≤ 100000 ∧ -2000 ≤ x.f1 ∧ x.f1 ≤ 2000
theorem td_el {n : Nat} {xs : List RTide} (h : TdOk n xs) {k : Nat} (hk : k < n) : tdO (xs.getD k zTide) := (h.1 k hk).1
def dB (n : Int) : ByteArray := ⟨(Lib.itoa n).toArray⟩
theorem dB_size (n : Int) (h : I64 n) : (dB n).size ≤ 21 := Lib.itoa_length_le n h.1 h.2
theorem dec_specT (n : Int) (t : ByteArray) (w : World) (hn : I64 n) (e : t = dB n) :
    Calls Tryd.prog 64 #[.int .i64 n] w fun e w' => e = .returned (.string t) ∧ Below w.heap.size w w' := by
  subst e
  exact dec_spec n w hn
/-- a section's text, and that of the first k -/
def wdB (x : RTide) : ByteArray := dB x.f0 ++ ⟨#[58]⟩ ++ dB x.f1
def txN (xs : List RTide) : Nat → ByteArray
  | 0 => ⟨#[]⟩
  | k + 1 => (if 0 < k then txN xs k ++ ⟨#[32]⟩ else txN xs k) ++ wdB (xs.getD k zTide)
theorem sz1 (b : UInt8) : (⟨#[b]⟩ : ByteArray).size = 1 := rfl
theorem wdB_size (x : RTide) (h0 : I64 x.f0) (h1 : I64 x.f1) : (wdB x).size ≤ 43 := by
  have := dB_size _ h0
  have := dB_size _ h1
  simp only [wdB, ByteArray.size_append, sz1]
  omega
theorem sec_i64 {x : RTide} (h : tdO x) : I64 x.f0 ∧ I64 x.f1 := by
  obtain ⟨a, b, c, d⟩ := h
  exact ⟨⟨by omega, by omega⟩, ⟨by omega, by omega⟩⟩
theorem txN_size {n : Nat} {xs : List RTide} (h : TdOk n xs) (k : Nat) (hk : k ≤ n) : (txN xs k).size ≤ 44 * k := by
  induction k with
  | zero => exact Nat.le_refl _
  | succ k ih =>
    have h1 := ih (by omega)
    have h2 := sec_i64 (td_el h (k := k) (by omega))
    have h3 := wdB_size _ h2.1 h2.2
    simp only [txN, ByteArray.size_append]
    split
    · simp only [ByteArray.size_append, sz1]; omega
    · omega
end Go.Proofs.YticbnahndidplaaDoor
