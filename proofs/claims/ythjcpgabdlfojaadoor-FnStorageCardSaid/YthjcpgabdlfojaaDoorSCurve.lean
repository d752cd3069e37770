/- Contracts of the laws' helpers over the struct Curve: size, copy, equal, mark, held. -/
import Derived.Test.YthjcpgabdlfojaaDoorReg
import Derived.Deep.RegionHeld3
namespace Go.Proofs.YthjcpgabdlfojaaDoor
open Go.RowKit

theorem Chg.then {lo hi : Nat} {a b c : World} (h : Chg lo hi a b) (k : Chg lo hi b c) : Chg lo hi a c :=
  ⟨k.os.trans h.os, k.tape.trans h.tape, k.output.trans h.output, Nat.le_trans h.size k.size, fun i hi' hl => (k.block i (Nat.lt_of_lt_of_le hi' h.size) hl).trans (h.block i hi' hl)⟩
theorem dis_new {w w2 : World} {lo lo2 : Nat} {A B : Option Addr} {n m : Nat} {xs ys : List Int} (h : Wr w lo A n xs) (k : Wr w2 lo2 B m ys) (hle : w.heap.size ≤ lo2) : Dis A n B m := by
  intro hn hm
  obtain ⟨b, off, rfl, h0, hb, _⟩ := h.2 hn
  obtain ⟨b', off', rfl, h0', hb', _⟩ := k.2 hm
  simp [ablk]
  omega
end Go.Proofs.YthjcpgabdlfojaaDoor
