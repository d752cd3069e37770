/- The source of drawn choices: what it keeps, what its draws give. -/
import Derived.Test.YthfemghfkfmkdaaGreatDoorReg
import Derived.Laws.Bits64b
namespace Go.Proofs.YthfemghfkfmkdaaGreatDoor
open Go.RowKit

/-- a source in block b: n bytes, k of them (or more) read -/
structure Src (w : World) (b n k : Nat) : Prop where
  cd : ∃ A c, w.cell? ⟨b, 0, none⟩ = some (.slice A n c) ∧ (0 < n → ∃ cb off, A = some ⟨cb, off, none⟩ ∧ cb < b ∧ ∀ j, j < n → ∃ x : Int, w.cell? ⟨cb, off + j, none⟩ = some (.int .u8 x) ∧ 0 ≤ x ∧ x ≤ 255)
  pos : w.cell? ⟨b, 1, none⟩ = some (.int .i64 (k : Int))
  sd : ∃ s : Int, w.cell? ⟨b, 2, none⟩ = some (.int .u64 s)
  fz : ∀ j, w.frozen? ⟨b, j, none⟩ = false
  bs : b < w.heap.size
theorem Src.grown {w w' : World} {b n k : Nat} (h : Src w b n k) {r : Option Nat} (hg : w.grownBy w' r) (hr : ∀ g, r = some g → b < g) : Src w' b n k := by
  have hb : some b ≠ r := fun e => by have := hr b e.symm; omega
  have e := fun j => World.cell?_of_block (w := w) (w' := w') (a := ⟨b, j, none⟩) (hg.block b h.bs hb)
  obtain ⟨A, c, h0, h1⟩ := h.cd
  refine ⟨⟨A, c, (e 0).trans h0, fun hn => ?_⟩, (e 1).trans h.pos, by obtain ⟨s, hs⟩ := h.sd; exact ⟨s, (e 2).trans hs⟩, fun j => (World.frozen?_of_block (hg.block b h.bs hb)).trans (h.fz j), Nat.lt_of_lt_of_le h.bs hg.size⟩
  obtain ⟨cb, off, rfl, hcb, hx⟩ := h1 hn
  refine ⟨cb, off, rfl, hcb, fun j hj => ?_⟩
  obtain ⟨x, hx1, hx2⟩ := hx j hj
  have := h.bs
  exact ⟨x, (World.cell?_of_block (w := w) (w' := w') (a := ⟨cb, off + j, none⟩) (hg.block cb (by omega) (fun e => by have := hr cb e.symm; omega))).trans hx1, hx2⟩
theorem Src.drewN {w : World} {b n k : Nat} (h : Src w b n k) (m : Nat) : Src (w.drewN m) b n k := ⟨h.cd, h.pos, h.sd, h.fz, h.bs⟩
/-- one choice is read: the place moves on, the seed turns -/
theorem Src.step {w : World} {b n k : Nat} (h : Src w b n k) (s : Int) : Src ((w.setCell ⟨b, 1, none⟩ (.int .i64 ((k : Int) + 1))).setCell ⟨b, 2, none⟩ (.int .u64 s)) b n (k + 1) := by
  obtain ⟨A, c, h0, h1⟩ := h.cd
  obtain ⟨s0, h3⟩ := h.sd
  have o : ∀ (a : Addr) (v : Value) (d : Addr) (W : World), d ≠ a → (W.setCell a v).cell? d = W.cell? d := fun a v d W e => World.cell?_setCell_other W _ _ _ (fun x => e x.symm)
  refine ⟨⟨A, c, ?_, fun hn => ?_⟩, ?_, ⟨s, ?_⟩, fun j => by simpa using h.fz j, by simpa [World.setCell] using h.bs⟩
  · rw [o _ _ _ _ (by simp), o _ _ _ _ (by simp)]; exact h0
  · obtain ⟨cb, off, rfl, hcb, hx⟩ := h1 hn
    refine ⟨cb, off, rfl, hcb, fun j hj => ?_⟩
    obtain ⟨x, hx1, hx2⟩ := hx j hj
    have hne : ¬ cb = b := by omega
    exact ⟨x, by rw [o _ _ _ _ (by simp [hne]), o _ _ _ _ (by simp [hne])]; exact hx1, hx2⟩
  · rw [o _ _ _ _ (by simp), World.cell?_setCell_same w _ _ h.pos]
    simp
  · exact World.cell?_setCell_same _ _ _ (by rw [o _ _ _ _ (by simp)]; exact h3)
theorem step_gb (w : World) (m m2 b : Nat) (u v : Value) : w.grownBy ((((w.drewN m).setCell ⟨b, 1, none⟩ u).setCell ⟨b, 2, none⟩ v).drewN m2) (some b) :=
  gb_drewN ((gb_drewN (World.grownBy.refl w (some b)) m).trans ((gb_setCell (w.drewN m) ⟨b, 1, none⟩ u).trans (gb_setCell ((w.drewN m).setCell ⟨b, 1, none⟩ u) ⟨b, 2, none⟩ v))) m2
theorem and255 (E : Int) (h0 : 0 ≤ E) (h1 : E < 18446744073709551616) : 0 ≤ bits BinOp.and IntKind.u64 E 255 ∧ bits BinOp.and IntKind.u64 E 255 ≤ 255 := by
  obtain ⟨a, rfl⟩ : ∃ a : Nat, E = a := ⟨E.toNat, by omega⟩
  have := bits_and_u64_nat a 255 (by omega) (by omega)
  rw [show ((255 : Nat) : Int) = 255 from rfl] at this
  rw [this]
  have h := @Nat.and_le_right a 255
  omega
theorem low8 (z : Int) : 0 ≤ wrap64 (bits BinOp.and IntKind.u64 (IntKind.u64.wrap z / 1099511627776) 255) ∧ wrap64 (bits BinOp.and IntKind.u64 (IntKind.u64.wrap z / 1099511627776) 255) ≤ 255 := by
  have h : 0 ≤ IntKind.u64.wrap z ∧ IntKind.u64.wrap z < 18446744073709551616 := by rw [IntKind.wrap_u64]; omega
  have a := and255 (IntKind.u64.wrap z / 1099511627776) (by omega) (by omega)
  rw [IntWalk.wrap64_in _ (by omega)]
  exact a

set_option maxRecDepth 100000 in
set_option maxHeartbeats 1600000 in
theorem next_t (b n k : Nat) (w : World) (h : Src w b n k) (hn : n ≤ 1048576) (hk : k ≤ 1048576) :
    Calls Tryz.prog 72 #[.pointer (some ⟨b, 0, none⟩)] w fun e w' => ∃ r : Int, e = .returned (.int .i64 r) ∧ 0 ≤ r ∧ r ≤ 255 ∧ Src w' b n (k + 1) ∧ w.grownBy w' (some b) := by
  obtain ⟨A, c, h0, h1⟩ := h.cd
  have h2 := h.pos
  obtain ⟨s, h3⟩ := h.sd
  have f1 := h.fz 1
  have f2 := h.fz 2
  by_cases hlt : k < n
  · obtain ⟨cb, off, rfl, hcb, hx⟩ := h1 (by omega)
    obtain ⟨x, hx1, hx2, hx3⟩ := hx k hlt
    have H := Lib.hid h
    clear h hx h1
    have hbs := H.out.bs
    have hne : ¬ cb = b := by omega
    have hne2 : ¬ b = cb := by omega
    have hcb2 : cb < w.heap.size := by omega
    have hlt2 : (k : Int) < (n : Int) := by omega
    go_enter Tryz.func72, Tryz.ntmps72
    go_wp2
    go_quiet (fail)
    go_wp2
    go_quiet (fail)
    go_wp2
    have hle : (k : Int) + 1 ≤ (n : Int) := by omega
    go_quiet (fail)
    go_wp2
    go_ret
    exact ⟨x, rfl, hx2, hx3, ((H.out.drewN _).step _).drewN _, step_gb w _ _ b _ _⟩
  · have H := Lib.hid h
    have hlt2 : decide ((k : Int) < (n : Int)) = false := by simp; omega
    clear h h1
    go_enter Tryz.func72, Tryz.ntmps72
    go_wp2
    go_quiet (fail)
    go_wp2
    have hle : decide ((k : Int) + 1 ≤ (n : Int)) = false := by simp; omega
    go_quiet (fail)
    go_wp2
    go_ret
    exact ⟨_, rfl, (low8 _).1, (low8 _).2, ((H.out.drewN _).step _).drewN _, step_gb w _ _ b _ _⟩

set_option maxRecDepth 100000 in
set_option maxHeartbeats 1600000 in
theorem pick_t (b n k : Nat) (m : Int) (w : World) (h : Src w b n k) (hn : n ≤ 1048576) (hk : k ≤ 1048000) (hm : m ≤ 1000000000) :
    Calls Tryz.prog 50 #[.pointer (some ⟨b, 0, none⟩), .int .i64 m] w fun e w' => ∃ (r : Int) (k' : Nat), e = .returned (.int .i64 r) ∧ 0 ≤ r ∧ (1 ≤ m → r < m) ∧ (m < 1 → r = 0) ∧ Src w' b n k' ∧ k' ≤ k + 2 ∧ w.grownBy w' (some b) := by
  have H := Lib.hid h
  clear h
  by_cases h1 : m ≤ 1
  · go_enter Tryz.func50, Tryz.ntmps50
    go_wp2
    go_ret
    exact ⟨0, k, rfl, by omega, fun _ => by omega, fun _ => rfl, H.out, by omega, World.grownBy.refl _ _⟩
  · by_cases h2 : m > 200
    · go_enter Tryz.func50, Tryz.ntmps50
      go_wp2_with fail
      refine (next_t b n k _ H.out hn (by omega)).mono ?_
      rintro e1 W1 ⟨r1, rfl, q1, q2, S1, g1⟩
      have HS1 := Lib.hid S1
      clear S1
      go_wp2_with fail
      refine (next_t b n (k + 1) _ HS1.out hn (by omega)).mono ?_
      rintro e2 W2 ⟨r2, rfl, q3, q4, S2, g2⟩
      have HS2 := Lib.hid S2
      clear S2
      go_wp2
      go_ret
      exact ⟨_, k + 2, rfl, Int.emod_nonneg _ (by omega), fun _ => Int.emod_lt_of_pos _ (by omega), fun h => by omega, HS2.out, by omega, g1.trans g2⟩
    · go_enter Tryz.func50, Tryz.ntmps50
      go_wp2_with fail
      refine (next_t b n k _ H.out hn (by omega)).mono ?_
      rintro e1 W1 ⟨r1, rfl, q1, q2, S1, g1⟩
      have HS1 := Lib.hid S1
      clear S1
      go_wp2
      go_ret
      exact ⟨_, k + 1, rfl, Int.emod_nonneg _ (by omega), fun _ => Int.emod_lt_of_pos _ (by omega), fun h => by omega, HS1.out, by omega, g1⟩

set_option maxHeartbeats 800000 in
theorem one_t (b n k : Nat) (m : Int) (w : World) (h : Src w b n k) (hn : n ≤ 1048576) (hk : k ≤ 1048000) (hm : m ≤ 1000000000) :
    Calls Tryz.prog 48 #[.pointer (some ⟨b, 0, none⟩), .int .i64 m] w fun e w' => ∃ (r : Bool) (k' : Nat), e = .returned (.bool r) ∧ Src w' b n k' ∧ k' ≤ k + 2 ∧ w.grownBy w' (some b) := by
  have H := Lib.hid h
  clear h
  go_enter Tryz.func48, Tryz.ntmps48
  go_wp2_with fail
  refine (pick_t b n k m _ H.out hn hk hm).mono ?_
  rintro e1 W1 ⟨r1, k1, rfl, q1, q2, q3, S1, q4, g1⟩
  have HS1 := Lib.hid S1
  clear S1 q2 q3
  go_wp2
  go_ret
  exact ⟨_, k1, rfl, HS1.out, q4, g1⟩

set_option maxHeartbeats 800000 in
theorem among_t (b n k : Nat) (A : Option Addr) (l c : Nat) (xs : List Int) (w : World) (h : Src w b n k) (hn : n ≤ 1048576) (hk : k ≤ 1048000) (hl : 1 ≤ l) (hl2 : l ≤ 1048576) (ha : Rd w w.heap.size A l xs) (hne : ablk A ≠ some b) :
    Calls Tryz.prog 49 #[.pointer (some ⟨b, 0, none⟩), .slice A l c] w fun e w' => ∃ (r : Int) (k' : Nat), e = .returned (.int .i64 r) ∧ r ∈ xs ∧ Src w' b n k' ∧ k' ≤ k + 2 ∧ w.grownBy w' (some b) := by
  have H := Lib.hid h
  have HA := Lib.hid ha
  clear h ha
  go_enter Tryz.func49, Tryz.ntmps49
  go_wp2_with fail
  refine (pick_t b n k _ _ H.out hn hk (by omega)).mono ?_
  rintro e1 W1 ⟨r1, k1, rfl, q1, q2, q3, S1, q4, g1⟩
  have q5 : r1 < (l : Int) := q2 (by omega)
  have HS1 := Lib.hid S1
  have HG := Lib.hid g1
  obtain ⟨cb, off, rfl, hcb, hx⟩ := (HA.out.grown (Nat.le_refl _) g1 (fun _ => hne)).2 (by omega)
  obtain ⟨q, rfl⟩ : ∃ q : Nat, r1 = (q : Int) := ⟨r1.toNat, by omega⟩
  have c1 := hx q (by omega)
  have i1 : q < l := by omega
  clear S1 q2 q3 hx g1
  go_wp2
  go_ret
  refine ⟨_, k1, rfl, ?_, HS1.out, q4, HG.out⟩
  have := HA.out.1
  rw [List.getElem?_eq_getElem (by omega)]
  exact List.getElem_mem _

end Go.Proofs.YthfemghfkfmkdaaGreatDoor
