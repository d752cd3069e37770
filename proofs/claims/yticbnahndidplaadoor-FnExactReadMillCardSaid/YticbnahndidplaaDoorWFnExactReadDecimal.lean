import Derived.Test.YticbnahndidplaaDoorNumS
import Derived.Test.YticbnahndidplaaDoorNumI
namespace Go.Proofs.YticbnahndidplaaDoor
open Go.RowKit

theorem dec_res (l : List UInt8) : ∃ res : Option Int, ∀ n, res = some n ↔ DecOf l n := by
  by_cases h : ∃ n, DecOf l n
  · obtain ⟨n, hn⟩ := h
    exact ⟨some n, fun m => ⟨fun e => by injection e with e; exact e ▸ hn, fun hm => by rw [hn.inj hm]⟩⟩
  · exact ⟨none, fun m => ⟨fun e => by simp at e, fun hm => absurd ⟨m, hm⟩ h⟩⟩


end Go.Proofs.YticbnahndidplaaDoor
