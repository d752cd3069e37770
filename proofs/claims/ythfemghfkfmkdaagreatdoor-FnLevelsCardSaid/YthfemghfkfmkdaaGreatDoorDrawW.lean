/- Draws of texts and of any numbers. -/
import Derived.Test.YthfemghfkfmkdaaGreatDoorDraw2
import Derived.Test.YthfemghfkfmkdaaGreatDoorStrs
import Derived.Test.YthfemghfkfmkdaaGreatDoorDecS
import Derived.Test.YthfemghfkfmkdaaGreatDoorStr
import Derived.Deep.RegionHeld3
namespace Go.Proofs.YthfemghfkfmkdaaGreatDoor
open Go.RowKit

theorem RdS.grown {w w' : World} {B : Nat} {A : Option Addr} {n : Nat} {xs : List ByteArray} (h : RdS w B A n xs) (hB : B ≤ w.heap.size) {r : Option Nat} (hg : w.grownBy w' r) (hr : 0 < n → ablk A ≠ r) : RdS w' B A n xs :=
  ⟨h.1, fun hn => by
    obtain ⟨b, off, e, hb, hc⟩ := h.2 hn
    refine ⟨b, off, e, hb, fun j hj => (World.cell?_of_block (hg.block b (by omega) ?_)).trans (hc j hj)⟩
    have := hr hn
    subst e
    exact this⟩
theorem i64_wrap (x : Int) : I64 (wrap64 x) := by
  have h : wrap64 x = (x + 9223372036854775808) % 18446744073709551616 - 9223372036854775808 := by
    first
    | rfl
    | (rw [← IntKind.wrap_i64]; rfl)
    | (unfold wrap64; omega)
  unfold I64
  omega
theorem gb_dal (W : World) (o : Obj) (r : Option Nat) : W.grownBy (W.drew.alloc o) r :=
  have q := gb_alloc W.drew o r
  ⟨q.os, q.tape, q.output, q.size, q.block⟩
/-- a list of texts that has just been laid -/
theorem rdS_lit (W : World) (T : TypeId) (xs : List ByteArray) : RdS (W.alloc (.cells (xs.map Value.string).toArray T)) (W.heap.size + 1) (some ⟨W.heap.size, 0, none⟩) xs.length xs := by
  refine ⟨rfl, fun _ => ⟨W.heap.size, 0, rfl, by omega, fun j hj => ?_⟩⟩
  have h : (W.alloc (.cells (xs.map Value.string).toArray T)).heap[W.heap.size]? = some (.cells (xs.map Value.string).toArray T) := heap_alloc_new W _
  rw [cell_of_row _ _ _ _ _ _ h, Nat.zero_add, List.getElem?_toArray]
  simp [List.getD_eq_getElem?_getD, hj]

set_option maxHeartbeats 800000 in
theorem text_t (b n k : Nat) (A : Option Addr) (l c : Nat) (xs : List ByteArray) (w : World) (h : Src w b n k) (hn : n ≤ 1048576) (hk : k ≤ 1048000) (hl : 1 ≤ l) (hl2 : l ≤ 1048576) (ha : RdS w w.heap.size A l xs) (hne : ablk A ≠ some b) (hsz : ∀ y, y ∈ xs → y.size ≤ 16) :
    Calls Tryz.prog 60 #[.pointer (some ⟨b, 0, none⟩), .slice A l c] w fun e w' => ∃ (r : ByteArray) (k' : Nat), e = .returned (.string r) ∧ r.size ≤ 16 ∧ Src w' b n k' ∧ k' ≤ k + 2 ∧ w.grownBy w' (some b) := by
  have H := Lib.hid h
  have HA := Lib.hid ha
  have HZ := Lib.hid hsz
  clear h ha hsz
  go_enter Tryz.func60, Tryz.ntmps60
  go_wp2_with fail
  refine (pick_t b n k _ _ H.out hn hk (by omega)).mono ?_
  rintro e1 W1 ⟨r1, k1, rfl, q1, q2, q3, S1, q4, g1⟩
  have q5 : r1 < (l : Int) := q2 (by omega)
  have HS1 := Lib.hid S1
  have HG := Lib.hid g1
  obtain ⟨cb, off, rfl, hcb, hx⟩ := (HA.out.grown (Nat.le_refl _) g1 (fun _ => hne)).2 (by omega)
  obtain ⟨q, rfl⟩ : ∃ q : Nat, r1 = (q : Int) := ⟨r1.toNat, by omega⟩
  have c1 := hx q (by omega)
  have i1 : q < l := by omega
  have hz : (xs.getD q ⟨#[]⟩).size ≤ 16 := HZ.out _ (by
    have := HA.out.1
    rw [List.getD_eq_getElem?_getD, List.getElem?_eq_getElem (show q < xs.length by omega)]
    exact List.getElem_mem _)
  generalize xs.getD q ⟨#[]⟩ = y at c1 hz
  clear S1 q2 q3 hx g1
  go_wp2
  go_ret
  exact ⟨y, k1, rfl, hz, HS1.out, q4, HG.out⟩

set_option maxRecDepth 100000 in
set_option maxHeartbeats 3200000 in
theorem spoil_t (b n k : Nat) (t : ByteArray) (w : World) (h : Src w b n k) (hn : n ≤ 1048576) (hk : k ≤ 1040000) (ht : t.size ≤ 1000) :
    Calls Tryz.prog 59 #[.pointer (some ⟨b, 0, none⟩), .string t] w fun e w' => ∃ (r : ByteArray) (k' : Nat), e = .returned (.string r) ∧ r.size ≤ 2000 ∧ Src w' b n k' ∧ k' ≤ k + 8 ∧ w.grownBy w' (some b) := by
  have H := Lib.hid h
  clear h
  go_enter Tryz.func59, Tryz.ntmps59
  go_wp2_with fail
  refine (pick_t b n k 5 _ H.out hn (by omega) (by omega)).mono ?_
  rintro e1 W1 ⟨r1, k1, rfl, q10, q11, q12, S1, q13, g1⟩
  have S1' := Lib.hid S1
  have G1 := Lib.hid g1
  clear S1 g1 q11 q12
  by_cases r0 : r1 = 0
  · subst r0
    go_wp2_with fail
    refine (pick_t b n k1 _ _ S1'.out hn (by omega) (by omega)).mono ?_
    rintro e3 W3 ⟨r3, k3, rfl, q30, q31, q32, S3, q33, g3⟩
    have q34 : r3 < (t.size : Int) + 1 := q31 (by omega)
    obtain ⟨q, rfl⟩ : ∃ q : Nat, r3 = (q : Int) := ⟨r3.toNat, by omega⟩
    have hq : q ≤ t.size := by omega
    have hq2 : (q : Int) ≤ (t.size : Int) := by omega
    have D3 := Lib.hid (show Src W3.drew b n k3 from S3.drewN 1)
    have G3 := Lib.hid (G1.out.trans g3)
    clear S3 q31 q32 g3
    · go_wp2_with fail
      refine wp_region_held_drew (S := fun w' => True) (by kernel_rfl) trivial (fun hHeld => ?_)
      ((refine wpAnyH_take (i := 0) (oi := ⟨some 16, _, _, _, _, _⟩) (v := ?_) rfl (by kernel_rfl) (by kernel_rfl) (by kernel_rfl) (fun _ _ _ h => h) (Or.inl ⟨by rfl, ?_⟩) (by assumption) ?_; rotate_left 1; (focus (intro w hSw; (try dsimp only at hSw); go_simp <;> try (first | (with_reducible rfl) | (rw [if_neg (by omega)]) | (rw [if_pos (by omega)])))); try simp only [Act.put, List.setIfInBounds_toArray, List.set_cons_zero, List.set_cons_succ]); (refine wpAnyH_take (i := 1) (oi := ⟨some 17, _, _, _, _, _⟩) (v := ?_) rfl (by kernel_rfl) (by kernel_rfl) (by kernel_rfl) (fun _ _ _ h => h) (Or.inl ⟨by rfl, ?_⟩) (by assumption) ?_; rotate_left 1; (focus (intro w hSw; (try dsimp only at hSw); go_simp <;> try (first | (with_reducible rfl) | (rw [if_neg (by omega)]) | (rw [if_pos (by omega)])))); try simp only [Act.put, List.setIfInBounds_toArray, List.set_cons_zero, List.set_cons_succ]); (refine wpAnyH_take (i := 2) (oi := ⟨some 18, _, _, _, _, _⟩) (v := ?_) rfl (by kernel_rfl) (by kernel_rfl) (by kernel_rfl) (fun _ _ _ h => h) (Or.inl ⟨by rfl, ?_⟩) (by assumption) ?_; rotate_left 1; (focus (intro w hSw; (try dsimp only at hSw); go_simp <;> try (first | (with_reducible rfl) | (rw [if_neg (by omega)]) | (rw [if_pos (by omega)])))); try simp only [Act.put, List.setIfInBounds_toArray, List.set_cons_zero, List.set_cons_succ]); (refine wpAnyH_take (i := 3) (oi := ⟨some 19, _, _, _, _, _⟩) (v := ?_) rfl (by kernel_rfl) (by kernel_rfl) (by kernel_rfl) (fun _ _ _ h => h) (Or.inl ⟨by rfl, ?_⟩) (by assumption) ?_; rotate_left 1; (focus (intro w hSw; (try dsimp only at hSw); go_simp <;> try (first | (with_reducible rfl) | (rw [if_neg (by omega)]) | (rw [if_pos (by omega)])))); try simp only [Act.put, List.setIfInBounds_toArray, List.set_cons_zero, List.set_cons_succ]); (refine wpAnyH_take (i := 7) (oi := ⟨some 23, _, _, _, _, _⟩) (v := ?_) rfl (by kernel_rfl) (by kernel_rfl) (by kernel_rfl) (fun _ _ _ h => h) (Or.inl ⟨by rfl, ?_⟩) (by assumption) ?_; rotate_left 1; (focus (intro w hSw; (try dsimp only at hSw); go_simp <;> try (first | (with_reducible rfl) | (rw [if_neg (by omega)]) | (rw [if_pos (by omega)])))); try simp only [Act.put, List.setIfInBounds_toArray, List.set_cons_zero, List.set_cons_succ]); (refine wpAnyH_take (i := 8) (oi := ⟨some 24, _, _, _, _, _⟩) (v := ?_) rfl (by kernel_rfl) (by kernel_rfl) (by kernel_rfl) (fun _ _ _ h => h) (Or.inl ⟨by rfl, ?_⟩) (by assumption) ?_; rotate_left 1; (focus (intro w hSw; (try dsimp only at hSw); go_simp <;> try (first | (with_reducible rfl) | (rw [if_neg (by omega)]) | (rw [if_pos (by omega)])))); try simp only [Act.put, List.setIfInBounds_toArray, List.set_cons_zero, List.set_cons_succ]); (refine wpAnyH_take (i := 9) (oi := ⟨some 25, _, _, _, _, _⟩) (v := ?_) rfl (by kernel_rfl) (by kernel_rfl) (by kernel_rfl) (fun _ _ _ h => h) (Or.inl ⟨by rfl, ?_⟩) (by assumption) ?_; rotate_left 1; (focus (intro w hSw; (try dsimp only at hSw); go_simp <;> try (first | (with_reducible rfl) | (rw [if_neg (by omega)]) | (rw [if_pos (by omega)])))); try simp only [Act.put, List.setIfInBounds_toArray, List.set_cons_zero, List.set_cons_succ]))
      refine wpAnyH_ready (rs := [4]) (by kernel_rfl) (by simp) ?_
      refine AllReadyH.cons (o := ⟨some 20, _, _, _, _, _⟩) rfl (fun K hK => ?_) AllReadyH.nil
      go_simp
      clear hHeld
      (refine hK.out _ _ ?_ (fun hHeld => ?_))
      · exact trivial
      try simp only [Act.put, List.setIfInBounds_toArray, List.set_cons_zero, List.set_cons_succ]
      (refine wpAnyH_ready (rs := [5]) (by kernel_rfl) (by simp) ?_; refine AllReadyH.cons rfl (fun K hK => ?_) AllReadyH.nil; go_simp)
      refine (text_t b n k3 _ _ _ [⟨#[32]⟩, ⟨#[48]⟩, ⟨#[45]⟩, ⟨#[120]⟩, ⟨#[49]⟩, ⟨#[57]⟩, ⟨#[46]⟩] _ (D3.out.alloc _) hn (by omega) (by omega) (by omega) (by have := rdS_lit W3.drew 9 [⟨#[32]⟩, ⟨#[48]⟩, ⟨#[45]⟩, ⟨#[120]⟩, ⟨#[49]⟩, ⟨#[57]⟩, ⟨#[46]⟩]; exact this.mono (by simp)) (by have := D3.out.bs; show some W3.heap.size ≠ some b; simp; have h2 : b < W3.heap.size := this; omega) (by simp; decide)).mono ?_
      rintro e4 W4 ⟨r4, k4, rfl, hr4, S4, hk4, g4⟩
      have S4' := Lib.hid S4
      have G4 := Lib.hid g4
      clear S4 g4
      clear hHeld
      (refine hK.out _ _ ?_ (fun hHeld => ?_))
      · exact trivial
      ((refine wpAnyH_take (i := 6) (oi := ⟨some 22, _, _, _, _, _⟩) (v := ?_) rfl (by kernel_rfl) (by kernel_rfl) (by kernel_rfl) (fun _ _ _ h => h) (Or.inl ⟨by rfl, ?_⟩) (by assumption) ?_; rotate_left 1; (focus (intro w hSw; (try dsimp only at hSw); go_simp <;> try (first | (with_reducible rfl) | (rw [if_neg (by omega)]) | (rw [if_pos (by omega)])))); try simp only [Act.put, List.setIfInBounds_toArray, List.set_cons_zero, List.set_cons_succ]); (refine wpAnyH_take (i := 10) (oi := ⟨some 26, _, _, _, _, _⟩) (v := ?_) rfl (by kernel_rfl) (by kernel_rfl) (by kernel_rfl) (fun _ _ _ h => h) (Or.inl ⟨by rfl, ?_⟩) (by assumption) ?_; rotate_left 1; (focus (intro w hSw; (try dsimp only at hSw); go_simp <;> try (first | (with_reducible rfl) | (rw [if_neg (by omega)]) | (rw [if_pos (by omega)])))); try simp only [Act.put, List.setIfInBounds_toArray, List.set_cons_zero, List.set_cons_succ]); (refine wpAnyH_take (i := 11) (oi := ⟨some 1, _, _, _, _, _⟩) (v := ?_) rfl (by kernel_rfl) (by kernel_rfl) (by kernel_rfl) (fun _ _ _ h => h) (Or.inl ⟨by rfl, ?_⟩) (by assumption) ?_; rotate_left 1; (focus (intro w hSw; (try dsimp only at hSw); go_simp <;> try (first | (with_reducible rfl) | (rw [if_neg (by omega)]) | (rw [if_pos (by omega)])))); try simp only [Act.put, List.setIfInBounds_toArray, List.set_cons_zero, List.set_cons_succ]))
      refine wpAnyH_done (by kernel_rfl) ?_ _
      go_wp2
      go_ret
      exact ⟨_, k4, rfl, by rw [ByteArray.size_append, ByteArray.size_append, ByteArray.size_extract, ByteArray.size_extract]; omega, S4'.out, by omega, G3.out.trans ((gb_dal W3 _ _).trans G4.out)⟩
  · by_cases r1' : r1 = 1
    · subst r1'
      by_cases hz : t.size = 0
      · have he : (!t.toList.isEmpty) = false := by rw [isEmpty_t t hz]; rfl
        go_wp2
        go_ret
        exact ⟨t, k1, rfl, by omega, S1'.out, by omega, G1.out⟩
      · have he : (!t.toList.isEmpty) = true := by rw [isEmpty_f t (by omega)]; rfl
        have hz1 : (1 : Int) ≤ (t.size : Int) := by omega
        go_wp2_with fail
        refine (pick_t b n k1 _ _ S1'.out hn (by omega) (by omega)).mono ?_
        rintro e3 W3 ⟨r3, k3, rfl, q30, q31, q32, S3, q33, g3⟩
        have q34 : r3 < (t.size : Int) := q31 hz1
        obtain ⟨q, rfl⟩ : ∃ q : Nat, r3 = (q : Int) := ⟨r3.toNat, by omega⟩
        have hq : q < t.size := by omega
        have hq2 : (q : Int) ≤ (t.size : Int) := by omega
        have hq3 : (q : Int) + 1 ≤ (t.size : Int) := by omega
        have hq4 : q ≤ t.size := by omega
        have hq5 : q + 1 ≤ t.size := by omega
        have S3' := Lib.hid S3
        have G3 := Lib.hid (G1.out.trans g3)
        clear S3 q31 q32 g3
        go_wp2
        go_quiet (fail)
        have SQ := Lib.hid (S3'.out.drewN nq)
        have GQ := Lib.hid (gb_drewN G3.out nq)
        generalize W3.drewN nq = V3 at SQ GQ ⊢
        go_wp2
        go_ret
        exact ⟨_, k3, rfl, by rw [ByteArray.size_append, ByteArray.size_extract, ByteArray.size_extract]; omega, SQ.out, by omega, GQ.out⟩
    · go_wp2
      go_ret
      exact ⟨t, k1, rfl, by omega, S1'.out, by omega, G1.out⟩

theorem itoa_sz {r : Int} (h : I64 r) : (⟨(Lib.itoa r).toArray⟩ : ByteArray).size ≤ 1000 := by
  show (Lib.itoa r).length ≤ 1000
  obtain ⟨h1, h2⟩ := h
  have h3 := dec_len 19 r.natAbs (by omega)
  unfold Lib.itoa
  split
  · simp only [List.length_cons]; omega
  · rw [show r.toNat = r.natAbs by omega]; omega
/-- bytes that lie below -/
def ByR (w : World) (A : Option Addr) (n : Nat) : Prop := 0 < n → ∃ cb off, A = some ⟨cb, off, none⟩ ∧ cb < w.heap.size ∧ ∀ j, j < n → ∃ x : Int, w.cell? ⟨cb, off + j, none⟩ = some (.int .u8 x) ∧ 0 ≤ x ∧ x ≤ 255
theorem ByR.below {w w' : World} {A : Option Addr} {n : Nat} (h : ByR w A n) (hb : Below w.heap.size w w') : ByR w' A n := fun hn => by
  obtain ⟨cb, off, e, hc, hx⟩ := h hn
  refine ⟨cb, off, e, Nat.lt_of_lt_of_le hc hb.size, fun j hj => ?_⟩
  obtain ⟨x, h1, h2⟩ := hx j hj
  exact ⟨x, (hb.cell (p := ⟨cb, off + j, none⟩) hc).trans h1, h2⟩
theorem src_new {w : World} {A : Option Addr} {n c : Nat} (h : ByR w A n) : Src (w.alloc (.cells #[.slice A n c, .int .i64 0, .int .u64 0] 72)) w.heap.size n 0 := by
  have hn := heap_alloc_new w (.cells #[.slice A n c, .int .i64 0, .int .u64 0] 72)
  refine ⟨⟨A, c, by rw [cell_of_row _ _ _ _ _ _ hn]; rfl, fun h0 => ?_⟩, by rw [cell_of_row _ _ _ _ _ _ hn]; rfl, ⟨0, by rw [cell_of_row _ _ _ _ _ _ hn]; rfl⟩, fun j => frozen_of_row hn _, by simp⟩
  obtain ⟨cb, off, e, hc, hx⟩ := h h0
  refine ⟨cb, off, e, hc, fun j hj => ?_⟩
  obtain ⟨x, h1, h2⟩ := hx j hj
  exact ⟨x, (World.cell?_of_block (w := w) (a := ⟨cb, off + j, none⟩) (Below.heap_alloc _ _ _ hc)).trans h1, h2⟩

set_option maxHeartbeats 400000 in
theorem l00From_t (A : Option Addr) (n c : Nat) (w : World) (h : ByR w A n) :
    Calls Tryz.prog 46 #[.slice A n c] w fun e w' => e = .returned (.pointer (some ⟨w.heap.size, 0, none⟩)) ∧ Src w' w.heap.size n 0 ∧ Below w.heap.size w w' := by
  have H := Lib.hid h
  clear h
  go_enter Tryz.func46, Tryz.ntmps46
  go_wp2
  go_ret
  exact ⟨rfl, src_new H.out, (Below.refl _ _).alloc (Nat.le_refl _) _⟩
theorem below_gb {B b : Nat} {w W W' : World} (h : Below B w W) (hg : W.grownBy W' (some b)) (hb : B ≤ b) (hB : B ≤ W.heap.size) : Below B w W' := h.grown hg hB (fun k hk => by injection hk with hk; omega)
end Go.Proofs.YthfemghfkfmkdaaGreatDoor
