/- The model's number of a decimal form. -/
import Derived.Test.YthfemghfkfmkdaaDoorNum
import Derived.Test.YthfemghfkfmkdaaDoorDecS
import Derived.Test.YthfemghfkfmkdaaDoorChars
import Derived.Test.YthfemghfkfmkdaaDoorStr
namespace Go.Proofs.YthfemghfkfmkdaaDoor
open Go.RowKit

theorem take_snoc (s : ByteArray) (k : Nat) (h : k < s.size) : s.data.toList.take (k + 1) = s.data.toList.take k ++ [s[k]] := by
  rw [List.take_succ_eq_append_getElem (by simpa using h)]
  rfl

theorem val_take_bd (t : ByteArray) (k m : Nat) (hm : k ≤ m) (h : ∀ j (hj : j < t.size), j < k → dig t[j]) : valA 0 (t.data.toList.take k) < 10 ^ m := by
  have h1 := valA_bd (t.data.toList.take k) 0 (by
    intro c hc
    obtain ⟨j, hj, rfl⟩ := List.mem_iff_getElem.1 hc
    have hj2 : j < k ∧ j < t.data.toList.length := by
      rw [List.length_take] at hj
      omega
    rw [List.getElem_take]
    exact h j hj2.2 hj2.1)
  have h2 : 10 ^ (t.data.toList.take k).length ≤ 10 ^ m := Nat.pow_le_pow_right (by omega) (by rw [List.length_take]; omega)
  omega

theorem mem_byte (t : ByteArray) (k : Nat) (h : k < t.size) : t[k] ∈ t.data.toList := by
  have : t[k] = t.data.toList[k]'h := rfl
  rw [this]
  exact List.getElem_mem _

theorem toList_data (s : ByteArray) : s.toList = s.data.toList := ByteArray.toList_eq _


end Go.Proofs.YthfemghfkfmkdaaDoor
