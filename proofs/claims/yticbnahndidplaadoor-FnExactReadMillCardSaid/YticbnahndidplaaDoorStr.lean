/- Small lemmas on strings of bytes; no function of the program in them. -/
import Derived.Test.YticbnahndidplaaDoorBase
import Derived.Laws.RangeAny
import Derived.Laws.RangeString
import Derived.Laws.Closers25
namespace Go.Proofs.YticbnahndidplaaDoor
open Go.RowKit

theorem isEmpty_f (s : ByteArray) (h : 0 < s.size) : s.toList.isEmpty = false := by
  rw [ByteArray.toList_eq]
  cases hl : s.data.toList with
  | nil =>
    have h2 : s.size = s.data.toList.length := rfl
    rw [hl] at h2
    have h3 : s.size = 0 := h2
    omega
  | cons x xs => rfl

theorem isEmpty_t (s : ByteArray) (h : s.size = 0) : s.toList.isEmpty = true := by
  rw [ByteArray.toList_eq]
  have h2 : s.data.toList.length = 0 := h
  rw [List.eq_nil_of_length_eq_zero h2]
  rfl


end Go.Proofs.YticbnahndidplaaDoor
