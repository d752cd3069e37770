/- Two sentinels: what their variables hold; which code an error has. -/
import Derived.Test.YticbnahndidplaaDoorIs
import Derived.Test.YticbnahndidplaaDoorReg
namespace Go.Proofs.YticbnahndidplaaDoor
open Go.RowKit

/-- the two package-level variables hold pointers to two errors; their blocks are below B -/
structure Sent (w : World) (B : Nat) (a0 a1 : Addr) : Prop where
  v0 : w.cell? ⟨0, 0, none⟩ = some (.iface 165 (.pointer (some a0)))
  v1 : w.cell? ⟨1, 0, none⟩ = some (.iface 165 (.pointer (some a1)))
  ne : a0 ≠ a1
  r0 : ∃ c t, w.heap[a0.block]? = some (.cells c t (0, 0))
  r1 : ∃ c t, w.heap[a1.block]? = some (.cells c t (0, 0))
  b : 1 < B
  b0 : a0.block < B
  b1 : a1.block < B
theorem Sent.below {w w' : World} {B : Nat} {a0 a1 : Addr} (h : Sent w B a0 a1) (hb : Below B w w') : Sent w' B a0 a1 :=
  ⟨(hb.cell (p := ⟨0, 0, none⟩) (show 0 < B from Nat.lt_trans Nat.zero_lt_one h.b)).trans h.v0, (hb.cell (p := ⟨1, 0, none⟩) h.b).trans h.v1, h.ne,
   by obtain ⟨c, t, e⟩ := h.r0; exact ⟨c, t, (hb.block _ h.b0).trans e⟩, by obtain ⟨c, t, e⟩ := h.r1; exact ⟨c, t, (hb.block _ h.b1).trans e⟩, h.b, h.b0, h.b1⟩
theorem Sent.mono {w : World} {B B' : Nat} {a0 a1 : Addr} (h : Sent w B a0 a1) (hB : B ≤ B') : Sent w B' a0 a1 :=
  ⟨h.v0, h.v1, h.ne, h.r0, h.r1, Nat.lt_of_lt_of_le h.b hB, Nat.lt_of_lt_of_le h.b0 hB, Nat.lt_of_lt_of_le h.b1 hB⟩
end Go.Proofs.YticbnahndidplaaDoor
