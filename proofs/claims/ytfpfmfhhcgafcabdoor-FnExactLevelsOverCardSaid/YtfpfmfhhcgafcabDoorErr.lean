/- Two sentinels: what their variables hold; which code an error has. -/
import Derived.Test.YtfpfmfhhcgafcabDoorIs
import Derived.Test.YtfpfmfhhcgafcabDoorReg
namespace Go.Proofs.YtfpfmfhhcgafcabDoor
open Go.RowKit

/-- the two package-level variables hold pointers to two errors; their blocks are below B -/
structure Sent (w : World) (B : Nat) (a0 a1 : Addr) : Prop where
  v0 : w.cell? ⟨0, 0, none⟩ = some (.iface 103 (.pointer (some a0)))
  v1 : w.cell? ⟨1, 0, none⟩ = some (.iface 103 (.pointer (some a1)))
  ne : a0 ≠ a1
  r0 : ∃ c t, w.heap[a0.block]? = some (.cells c t (0, 0))
  r1 : ∃ c t, w.heap[a1.block]? = some (.cells c t (0, 0))
  b : 1 < B
  b0 : a0.block < B
  b1 : a1.block < B
theorem Sent.below {w w' : World} {B : Nat} {a0 a1 : Addr} (h : Sent w B a0 a1) (hb : Below B w w') : Sent w' B a0 a1 :=
  ⟨(hb.cell (p := ⟨0, 0, none⟩) (show 0 < B from Nat.lt_trans Nat.zero_lt_one h.b)).trans h.v0, (hb.cell (p := ⟨1, 0, none⟩) h.b).trans h.v1, h.ne,
   by obtain ⟨c, t, e⟩ := h.r0; exact ⟨c, t, (hb.block _ h.b0).trans e⟩, by obtain ⟨c, t, e⟩ := h.r1; exact ⟨c, t, (hb.block _ h.b1).trans e⟩, h.b, h.b0, h.b1⟩
theorem Sent.mono {w : World} {B B' : Nat} {a0 a1 : Addr} (h : Sent w B a0 a1) (hB : B ≤ B') : Sent w B' a0 a1 :=
  ⟨h.v0, h.v1, h.ne, h.r0, h.r1, Nat.lt_of_lt_of_le h.b hB, Nat.lt_of_lt_of_le h.b0 hB, Nat.lt_of_lt_of_le h.b1 hB⟩

set_option maxHeartbeats 800000 in
theorem waterCode_nil (a0 a1 : Addr) (B : Nat) (w : World) (h : Sent w B a0 a1) :
    Calls Tryd.prog 31 #[.nilIface] w fun e w' => e = .returned (.int .i64 0) ∧ w = w' := by
  have g0 := h.v0
  have g1 := h.v1
  clear h
  go_enter Tryd.func31, Tryd.ntmps31
  go_wp2_with fail
  refine (is_nil a0 _).mono ?_
  rintro e1 W1 ⟨rfl, rfl⟩
  go_wp2_with fail
  refine (is_nil a1 _).mono ?_
  rintro e2 W2 ⟨rfl, rfl⟩
  go_wp2
  go_ret
  exact ⟨rfl, rfl⟩

set_option maxHeartbeats 800000 in
theorem waterCode_0 (a0 a1 : Addr) (B : Nat) (w : World) (h : Sent w B a0 a1) :
    Calls Tryd.prog 31 #[.iface 103 (.pointer (some a0))] w fun e w' => e = .returned (.int .i64 6) ∧ w = w' := by
  have g0 := h.v0
  clear h
  go_enter Tryd.func31, Tryd.ntmps31
  go_wp2_with fail
  refine (is_same a0 _).mono ?_
  rintro e1 W1 ⟨rfl, rfl⟩
  go_wp2
  go_ret
  exact ⟨rfl, rfl⟩

set_option maxHeartbeats 800000 in
theorem waterCode_1 (a0 a1 : Addr) (B : Nat) (w : World) (h : Sent w B a0 a1) :
    Calls Tryd.prog 31 #[.iface 103 (.pointer (some a1))] w fun e w' => e = .returned (.int .i64 10) ∧ w = w' := by
  have g0 := h.v0
  have g1 := h.v1
  have HN := Lib.hid (show a1 ≠ a0 from fun e => h.ne e.symm)
  obtain ⟨c0, t0, r0⟩ := h.r0
  obtain ⟨c1, t1, r1⟩ := h.r1
  have R0 := Lib.hid r0
  have R1 := Lib.hid r1
  clear h r0 r1
  go_enter Tryd.func31, Tryd.ntmps31
  go_wp2_with fail
  refine (is_other a1 a0 c1 c0 t1 t0 _ HN.out R1.out R0.out).mono ?_
  rintro e1 W1 ⟨rfl, rfl⟩
  go_wp2_with fail
  refine (is_same a1 _).mono ?_
  rintro e2 W2 ⟨rfl, rfl⟩
  go_wp2
  go_ret
  exact ⟨rfl, rfl⟩

end Go.Proofs.YtfpfmfhhcgafcabDoor
