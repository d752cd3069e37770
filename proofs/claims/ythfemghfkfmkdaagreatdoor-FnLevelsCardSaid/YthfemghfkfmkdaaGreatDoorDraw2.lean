/- Draws of levels. -/
import Derived.Test.YthfemghfkfmkdaaGreatDoorDraw
import Derived.Test.YthfemghfkfmkdaaGreatDoorOwn2
namespace Go.Proofs.YthfemghfkfmkdaaGreatDoor
open Go.RowKit

theorem gb_alloc (w : World) (o : Obj) (r : Option Nat) : w.grownBy (w.alloc o) r := ⟨rfl, rfl, rfl, by simp, fun k hk _ => Below.heap_alloc _ _ _ hk⟩
theorem Src.alloc {w : World} {b n k : Nat} (h : Src w b n k) (o : Obj) : Src (w.alloc o) b n k := h.grown (gb_alloc w o none) (fun g e => by cases e)
/-- a list of numbers that has just been laid -/
theorem rd_lit (W : World) (T : TypeId) (xs : List Int) (c : Nat) : Rd (W.alloc (.cells (xs.map (Value.int .i64)).toArray T)) (W.heap.size + 1) (some ⟨W.heap.size, 0, none⟩) xs.length xs := by
  refine ⟨rfl, fun _ => ⟨W.heap.size, 0, rfl, by omega, fun j hj => ?_⟩⟩
  have h : (W.alloc (.cells (xs.map (Value.int .i64)).toArray T)).heap[W.heap.size]? = some (.cells (xs.map (Value.int .i64)).toArray T) := heap_alloc_new W _
  rw [cell_of_row _ _ _ _ _ _ h, Nat.zero_add, List.getElem?_toArray]
  simp [List.getD_eq_getElem?_getD, hj]

set_option maxRecDepth 100000 in
set_option maxHeartbeats 1600000 in
theorem l02Draw_t (b n k : Nat) (w : World) (h : Src w b n k) (hn : n ≤ 1048576) (hk : k ≤ 1040000) :
    Calls Tryz.prog 58 #[.pointer (some ⟨b, 0, none⟩)] w fun e w' => ∃ (r : Int) (k' : Nat), e = .returned (.int .i64 r) ∧ -2000 ≤ r ∧ r ≤ 2000 ∧ Src w' b n k' ∧ k' ≤ k + 4 ∧ w.grownBy w' (some b) := by
  have H := Lib.hid h
  clear h
  go_enter Tryz.func58, Tryz.ntmps58
  go_wp2_with fail
  refine (one_t b n k 8 _ H.out hn (by omega) (by omega)).mono ?_
  rintro e1 W1 ⟨r1, k1, rfl, S1, q1, g1⟩
  have HS1 := Lib.hid S1
  clear S1
  cases r1
  · go_wp2_with fail
    refine (pick_t b n k1 60 _ HS1.out hn (by omega) (by omega)).mono ?_
    rintro e2 W2 ⟨r2, k2, rfl, q2, q3, q4, S2, q5, g2⟩
    have q6 : r2 < 60 := q3 (by omega)
    have HS2 := Lib.hid S2
    clear S2 q3 q4
    go_wp2
    go_ret
    exact ⟨_, k2, rfl, by omega, by omega, HS2.out, by omega, g1.trans g2⟩
  · go_wp2_with fail
    refine (pick_t b n k1 4001 _ HS1.out hn (by omega) (by omega)).mono ?_
    rintro e2 W2 ⟨r2, k2, rfl, q2, q3, q4, S2, q5, g2⟩
    have q6 : r2 < 4001 := q3 (by omega)
    have HS2 := Lib.hid S2
    clear S2 q3 q4
    go_wp2
    go_ret
    exact ⟨_, k2, rfl, by omega, by omega, HS2.out, by omega, g1.trans g2⟩

set_option maxRecDepth 100000 in
set_option maxHeartbeats 1600000 in
theorem l02Bent_t (b n k : Nat) (w : World) (h : Src w b n k) (hn : n ≤ 1048576) (hk : k ≤ 1030000) :
    Calls Tryz.prog 47 #[.pointer (some ⟨b, 0, none⟩)] w fun e w' => ∃ (r : Int) (k' : Nat), e = .returned (.int .i64 r) ∧ (Lit.int .i64 r).wf = true ∧ Src w' b n k' ∧ k' ≤ k + 6 ∧ w.grownBy w' (some b) := by
  have H := Lib.hid h
  clear h
  go_enter Tryz.func47, Tryz.ntmps47
  go_wp2_with fail
  refine (one_t b n k 5 _ H.out hn (by omega) (by omega)).mono ?_
  rintro e1 W1 ⟨r1, k1, rfl, S1, q1, g1⟩
  have HS1 := Lib.hid S1
  have hb1 := S1.bs
  clear S1
  cases r1
  · go_wp2_with fail
    refine (l02Draw_t b n k1 _ HS1.out hn (by omega)).mono ?_
    rintro e2 W2 ⟨r2, k2, rfl, q2, q3, S2, q5, g2⟩
    have HS2 := Lib.hid S2
    clear S2
    go_wp2
    go_ret
    exact ⟨_, k2, rfl, WalkArith.wf_i64 (by omega), HS2.out, by omega, g1.trans g2⟩
  · have HR := Lib.hid (rd_lit W1 2 [-2001, -2000, 0, 2000, 2001, -9223372036854775808, 9223372036854775807] 7)
    go_wp2_with fail
    refine (among_t b n k1 _ _ _ [-2001, -2000, 0, 2000, 2001, -9223372036854775808, 9223372036854775807] _ (HS1.out.alloc _) hn (by omega) (by omega) (by omega) (by have := HR.out; exact this.mono (by simp)) (by simp [ablk]; omega)).mono ?_
    rintro e2 W2 ⟨r2, k2, rfl, q2, S2, q5, g2⟩
    have HS2 := Lib.hid S2
    have HQ := Lib.hid q2
    clear S2 q2
    go_wp2
    go_ret
    refine ⟨_, k2, rfl, ?_, HS2.out, by omega, g1.trans ((gb_alloc W1 _ _).trans g2)⟩
    have := HQ.out
    simp at this
    exact WalkArith.wf_i64 (by omega)

end Go.Proofs.YthfemghfkfmkdaaGreatDoor
