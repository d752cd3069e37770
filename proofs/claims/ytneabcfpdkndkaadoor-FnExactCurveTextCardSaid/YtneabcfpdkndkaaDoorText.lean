/- Decimals as texts; bytes that a builder holds. -/
import Derived.Test.YtneabcfpdkndkaaDoorDecI
import Derived.Test.YtneabcfpdkndkaaDoorBuilder
import Derived.Lib.ItoaLen
namespace Go.Proofs.YtneabcfpdkndkaaDoor
open Go.RowKit

def dB (n : Int) : ByteArray := ⟨(Lib.itoa n).toArray⟩
theorem dB_size (n : Int) (h : I64 n) : (dB n).size ≤ 21 := Lib.itoa_length_le n h.1 h.2
theorem strCells_app (a b : ByteArray) : Lib.strCells (a ++ b) = Lib.strCells a ++ Lib.strCells b := by
  simp [Lib.strCells, ByteArray.data_append]
theorem one_size (a : ByteArray) (h : a.size ≤ 21) : ([] : List Value).length + (a ++ ⟨#[58]⟩).size ≤ 1048576 := by
  have e : (⟨#[58]⟩ : ByteArray).size = 1 := rfl
  rw [ByteArray.size_append, e, List.length_nil]
  omega
theorem ditch_size (o a b c : ByteArray) (ho : o.size ≤ 2000) (ha : a.size ≤ 21) (hb : b.size ≤ 21) (hc : c.size ≤ 21) : (Lib.strCells o).length + (⟨#[32]⟩ ++ a ++ ⟨#[62]⟩ ++ b ++ ⟨#[61]⟩ ++ c : ByteArray).size ≤ 1048576 := by
  have e : (⟨#[32]⟩ : ByteArray).size = 1 := rfl
  have e2 : (⟨#[62]⟩ : ByteArray).size = 1 := rfl
  have e3 : (⟨#[61]⟩ : ByteArray).size = 1 := rfl
  rw [Lib.strCells_length]
  simp only [ByteArray.size_append, e, e2, e3]
  omega
theorem cell_alloc_old {w : World} {o : Obj} {b k : Nat} (h : b < w.heap.size) : (w.alloc o).cell? ⟨b, k, none⟩ = w.cell? ⟨b, k, none⟩ := World.cell?_of_block (w := w) (a := ⟨b, k, none⟩) (Lib.alloc_old w o b h)
theorem mk_toList (a : ByteArray) : (⟨a.data.toList.toArray⟩ : ByteArray) = a := by cases a; simp

theorem dec_specB (n : Int) (w : World) (hn : I64 n) :
    Calls Tryd.prog 33 #[.int .i64 n] w fun e w' => e = .returned (.string (dB n)) ∧ Below w.heap.size w w' := dec_spec n w hn

theorem dec_implB (n : Int) (w : World) (hn : I64 n) (ht : PowTab w) :
    Calls Tryd.prog 20 #[.int .i64 n] w fun e w' => e = .returned (.string (dB n)) ∧ Below w.heap.size w w' := dec_impl n w hn ht

/-- the decimal under a name: its text is never laid open -/
theorem dec_implT (n : Int) (t : ByteArray) (w : World) (hn : I64 n) (ht : PowTab w) (e : t = dB n) :
    Calls Tryd.prog 20 #[.int .i64 n] w fun e w' => e = .returned (.string t) ∧ Below w.heap.size w w' := by
  subst e
  exact dec_implB n w hn ht

/-- String of a builder that holds a text -/
theorem string_t (B b : Nat) (s : ByteArray) (w : World) (h : IsB B b (Lib.strCells s) w) (hB : B ≤ w.heap.size) :
    Calls Tryd.prog 29 #[.pointer (some ⟨b, 0, none⟩)] w fun e w' => e = .returned (.string s) ∧ Below B w w' := by
  have := Tryd.Builder_String_any B b s.data.toList w h hB
  rw [mk_toList] at this
  exact this

end Go.Proofs.YtneabcfpdkndkaaDoor
