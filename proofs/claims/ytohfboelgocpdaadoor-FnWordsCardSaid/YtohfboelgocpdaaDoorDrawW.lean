/- Draws of texts and of any numbers. -/
import Derived.Test.YtohfboelgocpdaaDoorDraw2
import Derived.Test.YtohfboelgocpdaaDoorStrs
import Derived.Test.YtohfboelgocpdaaDoorDecS
import Derived.Test.YtohfboelgocpdaaDoorStr
import Derived.Deep.RegionHeld3
namespace Go.Proofs.YtohfboelgocpdaaDoor
open Go.RowKit

theorem RdS.grown {w w' : World} {B : Nat} {A : Option Addr} {n : Nat} {xs : List ByteArray} (h : RdS w B A n xs) (hB : B ≤ w.heap.size) {r : Option Nat} (hg : w.grownBy w' r) (hr : 0 < n → ablk A ≠ r) : RdS w' B A n xs :=
  ⟨h.1, fun hn => by
    obtain ⟨b, off, e, hb, hc⟩ := h.2 hn
    refine ⟨b, off, e, hb, fun j hj => (World.cell?_of_block (hg.block b (by omega) ?_)).trans (hc j hj)⟩
    have := hr hn
    subst e
    exact this⟩
theorem i64_wrap (x : Int) : I64 (wrap64 x) := by
  have h : wrap64 x = (x + 9223372036854775808) % 18446744073709551616 - 9223372036854775808 := by
    first
    | rfl
    | (rw [← IntKind.wrap_i64]; rfl)
    | (unfold wrap64; omega)
  unfold I64
  omega
theorem gb_dal (W : World) (o : Obj) (r : Option Nat) : W.grownBy (W.drew.alloc o) r :=
  have q := gb_alloc W.drew o r
  ⟨q.os, q.tape, q.output, q.size, q.block⟩
/-- a list of texts that has just been laid -/
theorem rdS_lit (W : World) (T : TypeId) (xs : List ByteArray) : RdS (W.alloc (.cells (xs.map Value.string).toArray T)) (W.heap.size + 1) (some ⟨W.heap.size, 0, none⟩) xs.length xs := by
  refine ⟨rfl, fun _ => ⟨W.heap.size, 0, rfl, by omega, fun j hj => ?_⟩⟩
  have h : (W.alloc (.cells (xs.map Value.string).toArray T)).heap[W.heap.size]? = some (.cells (xs.map Value.string).toArray T) := heap_alloc_new W _
  rw [cell_of_row _ _ _ _ _ _ h, Nat.zero_add, List.getElem?_toArray]
  simp [List.getD_eq_getElem?_getD, hj]

set_option maxHeartbeats 800000 in
theorem text_t (b n k : Nat) (A : Option Addr) (l c : Nat) (xs : List ByteArray) (w : World) (h : Src w b n k) (hn : n ≤ 1048576) (hk : k ≤ 1048000) (hl : 1 ≤ l) (hl2 : l ≤ 1048576) (ha : RdS w w.heap.size A l xs) (hne : ablk A ≠ some b) (hsz : ∀ y, y ∈ xs → y.size ≤ 16) :
    Calls Tryd.prog 30 #[.pointer (some ⟨b, 0, none⟩), .slice A l c] w fun e w' => ∃ (r : ByteArray) (k' : Nat), e = .returned (.string r) ∧ r.size ≤ 16 ∧ Src w' b n k' ∧ k' ≤ k + 2 ∧ w.grownBy w' (some b) := by
  have H := Lib.hid h
  have HA := Lib.hid ha
  have HZ := Lib.hid hsz
  clear h ha hsz
  go_enter Tryd.func30, Tryd.ntmps30
  go_wp2_with fail
  refine (pick_t b n k _ _ H.out hn hk (by omega)).mono ?_
  rintro e1 W1 ⟨r1, k1, rfl, q1, q2, q3, S1, q4, g1⟩
  have q5 : r1 < (l : Int) := q2 (by omega)
  have HS1 := Lib.hid S1
  have HG := Lib.hid g1
  obtain ⟨cb, off, rfl, hcb, hx⟩ := (HA.out.grown (Nat.le_refl _) g1 (fun _ => hne)).2 (by omega)
  obtain ⟨q, rfl⟩ : ∃ q : Nat, r1 = (q : Int) := ⟨r1.toNat, by omega⟩
  have c1 := hx q (by omega)
  have i1 : q < l := by omega
  have hz : (xs.getD q ⟨#[]⟩).size ≤ 16 := HZ.out _ (by
    have := HA.out.1
    rw [List.getD_eq_getElem?_getD, List.getElem?_eq_getElem (show q < xs.length by omega)]
    exact List.getElem_mem _)
  generalize xs.getD q ⟨#[]⟩ = y at c1 hz
  clear S1 q2 q3 hx g1
  go_wp2
  go_ret
  exact ⟨y, k1, rfl, hz, HS1.out, q4, HG.out⟩

set_option maxRecDepth 100000 in
set_option maxHeartbeats 1600000 in
theorem any_t (b n k : Nat) (w : World) (h : Src w b n k) (hn : n ≤ 1048576) (hk : k ≤ 1040000) :
    Calls Tryd.prog 21 #[.pointer (some ⟨b, 0, none⟩)] w fun e w' => ∃ (r : Int) (k' : Nat), e = .returned (.int .i64 r) ∧ I64 r ∧ Src w' b n k' ∧ k' ≤ k + 12 ∧ w.grownBy w' (some b) := by
  have H := Lib.hid h
  clear h
  go_enter Tryd.func21, Tryd.ntmps21
  go_wp2_with fail
  refine (pick_t b n k 4 _ H.out hn (by omega) (by omega)).mono ?_
  rintro e1 W1 ⟨r1, k1, rfl, q10, q11, q12, S1, q13, g1⟩
  have S1' := Lib.hid S1
  have G1 := Lib.hid g1
  have hbb := S1.bs
  clear S1 g1 q11 q12
  by_cases r0 : r1 = 0
  · subst r0
    have HR := Lib.hid (fun X : World => rd_lit X 2 [-9223372036854775808, 9223372036854775807, 1000000000, 1000000001, -1000000000, 999999999999999999, 1000000000000000000, -7] 8)
    go_wp2_with fail
    refine (among_t b n k1 _ _ _ [-9223372036854775808, 9223372036854775807, 1000000000, 1000000001, -1000000000, 999999999999999999, 1000000000000000000, -7] _ (S1'.out.alloc _) hn (by omega) (by omega) (by omega) (by have := HR.out W1; exact this.mono (by simp)) (by simp [ablk]; omega)).mono ?_
    rintro e2 W2 ⟨r2, k2, rfl, q2, S2, q3, g2⟩
    have S2' := Lib.hid S2
    have HI := Lib.hid (show I64 r2 by simp at q2; unfold I64; omega)
    clear S2 q2
    go_wp2
    go_ret
    exact ⟨r2, k2, rfl, HI.out, S2'.out, by omega, G1.out.trans ((gb_alloc W1 _ _).trans g2)⟩
  · by_cases r1' : r1 = 1
    · subst r1'
      go_wp2_with fail
      refine (next_t b n k1 _ S1'.out hn (by omega)).mono ?_
      rintro e2 W2 ⟨r2, rfl, q20, q21, S2, g2⟩
      have S2' := Lib.hid S2
      have G2 := Lib.hid (G1.out.trans g2)
      have HI := Lib.hid (show I64 r2 by unfold I64; omega)
      clear S2 g2
      go_wp2
      go_loopw [3, 4] (fun vv ii wr => ∃ (v : Int) (i : Nat), vv = .int .i64 v ∧ ii = .int .i64 (i : Int) ∧ i ≤ 7 ∧ Hid (I64 v) ∧ Hid (Src wr b n (k1 + 1 + i)) ∧ Hid (w.grownBy wr (some b))) (fun _ ii _ => 7 - (intOf ii).toNat)
      case atStart => exact ⟨r2, 0, rfl, rfl, by omega, HI, S2', G2⟩
      case round =>
        obtain ⟨v, i, rfl, rfl, hi, HV, HSr, HG⟩ := hrel
        by_cases hlt : i < 7
        · have hlt2 : (i : Int) < 7 := by omega
          go_wp2_with fail
          refine (next_t b n (k1 + 1 + i) _ HSr.out hn (by omega)).mono ?_
          rintro e3 W3 ⟨r3, rfl, q30, q31, S3, g3⟩
          have S3' := Lib.hid S3
          have G3 := Lib.hid (HG.out.trans g3)
          clear S3 g3
          go_wp2
          exact ⟨⟨_, i + 1, rfl, by rw [show ((i + 1 : Nat) : Int) = (i : Int) + 1 by omega], by omega, Lib.hid (i64_wrap _), S3', G3⟩, by simp [intOf]; omega⟩
        · obtain rfl : i = 7 := by omega
          go_wp2
          go_ret
          exact ⟨v, _, rfl, HV.out, HSr.out, by omega, HG.out⟩
    · go_wp2_with fail
      refine (pick_t b n k1 200 _ S1'.out hn (by omega) (by omega)).mono ?_
      rintro e2 W2 ⟨r2, k2, rfl, q20, q21, q22, S2, q23, g2⟩
      have q24 : r2 < 200 := q21 (by omega)
      have S2' := Lib.hid S2
      clear S2 q21 q22
      go_wp2
      go_ret
      exact ⟨_, k2, rfl, by unfold I64; omega, S2'.out, by omega, G1.out.trans g2⟩

set_option maxRecDepth 100000 in
set_option maxHeartbeats 3200000 in
theorem spoil_t (b n k : Nat) (t : ByteArray) (w : World) (h : Src w b n k) (hn : n ≤ 1048576) (hk : k ≤ 1040000) (ht : t.size ≤ 1000) :
    Calls Tryd.prog 26 #[.pointer (some ⟨b, 0, none⟩), .string t] w fun e w' => ∃ (r : ByteArray) (k' : Nat), e = .returned (.string r) ∧ r.size ≤ 2000 ∧ Src w' b n k' ∧ k' ≤ k + 8 ∧ w.grownBy w' (some b) := by
  have H := Lib.hid h
  clear h
  go_enter Tryd.func26, Tryd.ntmps26
  go_wp2_with fail
  refine (pick_t b n k 5 _ H.out hn (by omega) (by omega)).mono ?_
  rintro e1 W1 ⟨r1, k1, rfl, q10, q11, q12, S1, q13, g1⟩
  have S1' := Lib.hid S1
  have G1 := Lib.hid g1
  clear S1 g1 q11 q12
  by_cases r0 : r1 = 0
  · subst r0
    go_wp2_with fail
    refine (pick_t b n k1 _ _ S1'.out hn (by omega) (by omega)).mono ?_
    rintro e3 W3 ⟨r3, k3, rfl, q30, q31, q32, S3, q33, g3⟩
    have q34 : r3 < (t.size : Int) + 1 := q31 (by omega)
    obtain ⟨q, rfl⟩ : ∃ q : Nat, r3 = (q : Int) := ⟨r3.toNat, by omega⟩
    have hq : q ≤ t.size := by omega
    have hq2 : (q : Int) ≤ (t.size : Int) := by omega
    have D3 := Lib.hid (show Src W3.drew b n k3 from S3.drewN 1)
    have G3 := Lib.hid (G1.out.trans g3)
    clear S3 q31 q32 g3
    · go_wp2_with fail
      refine wp_region_held_drew (S := fun w' => True) (by kernel_rfl) trivial (fun hHeld => ?_)
      ((refine wpAnyH_take (i := 0) (oi := ⟨some 16, _, _, _, _, _⟩) (v := ?_) rfl (by kernel_rfl) (by kernel_rfl) (by kernel_rfl) (fun _ _ _ h => h) (Or.inl ⟨by rfl, ?_⟩) (by assumption) ?_; rotate_left 1; (focus (intro w hSw; (try dsimp only at hSw); go_simp <;> try (first | (with_reducible rfl) | (rw [if_neg (by omega)])))); try simp only [Act.put, List.setIfInBounds_toArray, List.set_cons_zero, List.set_cons_succ]); (refine wpAnyH_take (i := 1) (oi := ⟨some 17, _, _, _, _, _⟩) (v := ?_) rfl (by kernel_rfl) (by kernel_rfl) (by kernel_rfl) (fun _ _ _ h => h) (Or.inl ⟨by rfl, ?_⟩) (by assumption) ?_; rotate_left 1; (focus (intro w hSw; (try dsimp only at hSw); go_simp <;> try (first | (with_reducible rfl) | (rw [if_neg (by omega)])))); try simp only [Act.put, List.setIfInBounds_toArray, List.set_cons_zero, List.set_cons_succ]); (refine wpAnyH_take (i := 2) (oi := ⟨some 18, _, _, _, _, _⟩) (v := ?_) rfl (by kernel_rfl) (by kernel_rfl) (by kernel_rfl) (fun _ _ _ h => h) (Or.inl ⟨by rfl, ?_⟩) (by assumption) ?_; rotate_left 1; (focus (intro w hSw; (try dsimp only at hSw); go_simp <;> try (first | (with_reducible rfl) | (rw [if_neg (by omega)])))); try simp only [Act.put, List.setIfInBounds_toArray, List.set_cons_zero, List.set_cons_succ]); (refine wpAnyH_take (i := 3) (oi := ⟨some 19, _, _, _, _, _⟩) (v := ?_) rfl (by kernel_rfl) (by kernel_rfl) (by kernel_rfl) (fun _ _ _ h => h) (Or.inl ⟨by rfl, ?_⟩) (by assumption) ?_; rotate_left 1; (focus (intro w hSw; (try dsimp only at hSw); go_simp <;> try (first | (with_reducible rfl) | (rw [if_neg (by omega)])))); try simp only [Act.put, List.setIfInBounds_toArray, List.set_cons_zero, List.set_cons_succ]); (refine wpAnyH_take (i := 7) (oi := ⟨some 23, _, _, _, _, _⟩) (v := ?_) rfl (by kernel_rfl) (by kernel_rfl) (by kernel_rfl) (fun _ _ _ h => h) (Or.inl ⟨by rfl, ?_⟩) (by assumption) ?_; rotate_left 1; (focus (intro w hSw; (try dsimp only at hSw); go_simp <;> try (first | (with_reducible rfl) | (rw [if_neg (by omega)])))); try simp only [Act.put, List.setIfInBounds_toArray, List.set_cons_zero, List.set_cons_succ]); (refine wpAnyH_take (i := 8) (oi := ⟨some 24, _, _, _, _, _⟩) (v := ?_) rfl (by kernel_rfl) (by kernel_rfl) (by kernel_rfl) (fun _ _ _ h => h) (Or.inl ⟨by rfl, ?_⟩) (by assumption) ?_; rotate_left 1; (focus (intro w hSw; (try dsimp only at hSw); go_simp <;> try (first | (with_reducible rfl) | (rw [if_neg (by omega)])))); try simp only [Act.put, List.setIfInBounds_toArray, List.set_cons_zero, List.set_cons_succ]); (refine wpAnyH_take (i := 9) (oi := ⟨some 25, _, _, _, _, _⟩) (v := ?_) rfl (by kernel_rfl) (by kernel_rfl) (by kernel_rfl) (fun _ _ _ h => h) (Or.inl ⟨by rfl, ?_⟩) (by assumption) ?_; rotate_left 1; (focus (intro w hSw; (try dsimp only at hSw); go_simp <;> try (first | (with_reducible rfl) | (rw [if_neg (by omega)])))); try simp only [Act.put, List.setIfInBounds_toArray, List.set_cons_zero, List.set_cons_succ]))
      refine wpAnyH_ready (rs := [4]) (by kernel_rfl) (by simp) ?_
      refine AllReadyH.cons (o := ⟨some 20, _, _, _, _, _⟩) rfl (fun K hK => ?_) AllReadyH.nil
      go_simp
      clear hHeld
      (refine hK.out _ _ ?_ (fun hHeld => ?_))
      · exact trivial
      try simp only [Act.put, List.setIfInBounds_toArray, List.set_cons_zero, List.set_cons_succ]
      (refine wpAnyH_ready (rs := [5]) (by kernel_rfl) (by simp) ?_; refine AllReadyH.cons rfl (fun K hK => ?_) AllReadyH.nil; go_simp)
      refine (text_t b n k3 _ _ _ [⟨#[32]⟩, ⟨#[48]⟩, ⟨#[45]⟩, ⟨#[120]⟩, ⟨#[49]⟩, ⟨#[57]⟩, ⟨#[46]⟩] _ (D3.out.alloc _) hn (by omega) (by omega) (by omega) (by have := rdS_lit W3.drew 9 [⟨#[32]⟩, ⟨#[48]⟩, ⟨#[45]⟩, ⟨#[120]⟩, ⟨#[49]⟩, ⟨#[57]⟩, ⟨#[46]⟩]; exact this.mono (by simp)) (by have := D3.out.bs; show some W3.heap.size ≠ some b; simp; have h2 : b < W3.heap.size := this; omega) (by simp; decide)).mono ?_
      rintro e4 W4 ⟨r4, k4, rfl, hr4, S4, hk4, g4⟩
      have S4' := Lib.hid S4
      have G4 := Lib.hid g4
      clear S4 g4
      clear hHeld
      (refine hK.out _ _ ?_ (fun hHeld => ?_))
      · exact trivial
      ((refine wpAnyH_take (i := 6) (oi := ⟨some 22, _, _, _, _, _⟩) (v := ?_) rfl (by kernel_rfl) (by kernel_rfl) (by kernel_rfl) (fun _ _ _ h => h) (Or.inl ⟨by rfl, ?_⟩) (by assumption) ?_; rotate_left 1; (focus (intro w hSw; (try dsimp only at hSw); go_simp <;> try (first | (with_reducible rfl) | (rw [if_neg (by omega)])))); try simp only [Act.put, List.setIfInBounds_toArray, List.set_cons_zero, List.set_cons_succ]); (refine wpAnyH_take (i := 10) (oi := ⟨some 26, _, _, _, _, _⟩) (v := ?_) rfl (by kernel_rfl) (by kernel_rfl) (by kernel_rfl) (fun _ _ _ h => h) (Or.inl ⟨by rfl, ?_⟩) (by assumption) ?_; rotate_left 1; (focus (intro w hSw; (try dsimp only at hSw); go_simp <;> try (first | (with_reducible rfl) | (rw [if_neg (by omega)])))); try simp only [Act.put, List.setIfInBounds_toArray, List.set_cons_zero, List.set_cons_succ]); (refine wpAnyH_take (i := 11) (oi := ⟨some 1, _, _, _, _, _⟩) (v := ?_) rfl (by kernel_rfl) (by kernel_rfl) (by kernel_rfl) (fun _ _ _ h => h) (Or.inl ⟨by rfl, ?_⟩) (by assumption) ?_; rotate_left 1; (focus (intro w hSw; (try dsimp only at hSw); go_simp <;> try (first | (with_reducible rfl) | (rw [if_neg (by omega)])))); try simp only [Act.put, List.setIfInBounds_toArray, List.set_cons_zero, List.set_cons_succ]))
      refine wpAnyH_done (by kernel_rfl) ?_ _
      go_wp2
      go_ret
      exact ⟨_, k4, rfl, by rw [ByteArray.size_append, ByteArray.size_append, ByteArray.size_extract, ByteArray.size_extract]; omega, S4'.out, by omega, G3.out.trans ((gb_dal W3 _ _).trans G4.out)⟩
  · by_cases r1' : r1 = 1
    · subst r1'
      by_cases hz : t.size = 0
      · have he : (!t.toList.isEmpty) = false := by rw [isEmpty_t t hz]; rfl
        go_wp2
        go_ret
        exact ⟨t, k1, rfl, by omega, S1'.out, by omega, G1.out⟩
      · have he : (!t.toList.isEmpty) = true := by rw [isEmpty_f t (by omega)]; rfl
        have hz1 : (1 : Int) ≤ (t.size : Int) := by omega
        go_wp2_with fail
        refine (pick_t b n k1 _ _ S1'.out hn (by omega) (by omega)).mono ?_
        rintro e3 W3 ⟨r3, k3, rfl, q30, q31, q32, S3, q33, g3⟩
        have q34 : r3 < (t.size : Int) := q31 hz1
        obtain ⟨q, rfl⟩ : ∃ q : Nat, r3 = (q : Int) := ⟨r3.toNat, by omega⟩
        have hq : q < t.size := by omega
        have hq2 : (q : Int) ≤ (t.size : Int) := by omega
        have hq3 : (q : Int) + 1 ≤ (t.size : Int) := by omega
        have hq4 : q ≤ t.size := by omega
        have hq5 : q + 1 ≤ t.size := by omega
        have S3' := Lib.hid S3
        have G3 := Lib.hid (G1.out.trans g3)
        clear S3 q31 q32 g3
        go_wp2
        go_quiet (fail)
        have SQ := Lib.hid (S3'.out.drewN nq)
        have GQ := Lib.hid (gb_drewN G3.out nq)
        generalize W3.drewN nq = V3 at SQ GQ ⊢
        go_wp2
        go_ret
        exact ⟨_, k3, rfl, by rw [ByteArray.size_append, ByteArray.size_extract, ByteArray.size_extract]; omega, SQ.out, by omega, GQ.out⟩
    · go_wp2
      go_ret
      exact ⟨t, k1, rfl, by omega, S1'.out, by omega, G1.out⟩

theorem itoa_sz {r : Int} (h : I64 r) : (⟨(Lib.itoa r).toArray⟩ : ByteArray).size ≤ 1000 := by
  show (Lib.itoa r).length ≤ 1000
  obtain ⟨h1, h2⟩ := h
  have h3 := dec_len 19 r.natAbs (by omega)
  unfold Lib.itoa
  split
  · simp only [List.length_cons]; omega
  · rw [show r.toNat = r.natAbs by omega]; omega
/-- bytes that lie below -/
def ByR (w : World) (A : Option Addr) (n : Nat) : Prop := 0 < n → ∃ cb off, A = some ⟨cb, off, none⟩ ∧ cb < w.heap.size ∧ ∀ j, j < n → ∃ x : Int, w.cell? ⟨cb, off + j, none⟩ = some (.int .u8 x) ∧ 0 ≤ x ∧ x ≤ 255
theorem ByR.below {w w' : World} {A : Option Addr} {n : Nat} (h : ByR w A n) (hb : Below w.heap.size w w') : ByR w' A n := fun hn => by
  obtain ⟨cb, off, e, hc, hx⟩ := h hn
  refine ⟨cb, off, e, Nat.lt_of_lt_of_le hc hb.size, fun j hj => ?_⟩
  obtain ⟨x, h1, h2⟩ := hx j hj
  exact ⟨x, (hb.cell (p := ⟨cb, off + j, none⟩) hc).trans h1, h2⟩
theorem src_new {w : World} {A : Option Addr} {n c : Nat} (h : ByR w A n) : Src (w.alloc (.cells #[.slice A n c, .int .i64 0, .int .u64 0] 56)) w.heap.size n 0 := by
  have hn := heap_alloc_new w (.cells #[.slice A n c, .int .i64 0, .int .u64 0] 56)
  refine ⟨⟨A, c, by rw [cell_of_row _ _ _ _ _ _ hn]; rfl, fun h0 => ?_⟩, by rw [cell_of_row _ _ _ _ _ _ hn]; rfl, ⟨0, by rw [cell_of_row _ _ _ _ _ _ hn]; rfl⟩, fun j => frozen_of_row hn _, by simp⟩
  obtain ⟨cb, off, e, hc, hx⟩ := h h0
  refine ⟨cb, off, e, hc, fun j hj => ?_⟩
  obtain ⟨x, h1, h2⟩ := hx j hj
  exact ⟨x, (World.cell?_of_block (w := w) (a := ⟨cb, off + j, none⟩) (Below.heap_alloc _ _ _ hc)).trans h1, h2⟩

set_option maxHeartbeats 400000 in
theorem l00From_t (A : Option Addr) (n c : Nat) (w : World) (h : ByR w A n) :
    Calls Tryd.prog 22 #[.slice A n c] w fun e w' => e = .returned (.pointer (some ⟨w.heap.size, 0, none⟩)) ∧ Src w' w.heap.size n 0 ∧ Below w.heap.size w w' := by
  have H := Lib.hid h
  clear h
  go_enter Tryd.func22, Tryd.ntmps22
  go_wp2
  go_ret
  exact ⟨rfl, src_new H.out, (Below.refl _ _).alloc (Nat.le_refl _) _⟩
theorem below_gb {B b : Nat} {w W W' : World} (h : Below B w W) (hg : W.grownBy W' (some b)) (hb : B ≤ b) (hB : B ≤ W.heap.size) : Below B w W' := h.grown hg hB (fun k hk => by injection hk with hk; omega)

set_option maxRecDepth 100000 in
set_option maxHeartbeats 1600000 in
theorem drawDecimal_t (A : Option Addr) (n c : Nat) (w : World) (h : ByR w A n) (hn : n ≤ 1048576) :
    Calls Tryd.prog 5 #[.slice A n c] w fun e w' => ∃ r : Int, e = .returned (.int .i64 r) ∧ I64 r ∧ Below w.heap.size w w' := by
  have H := Lib.hid h
  clear h
  go_enter Tryd.func5, Tryd.ntmps5
  go_wp2_with fail
  refine (l00From_t A n c w H.out).mono ?_
  rintro e1 W1 ⟨rfl, S1, b1⟩
  have S1' := Lib.hid S1
  have z1 := b1.size
  clear S1
  go_wp2_with fail
  refine (any_t w.heap.size n 0 _ S1'.out hn (by omega)).mono ?_
  rintro e2 W2 ⟨r, k2, rfl, hr, S2, hk2, g2⟩
  have HR := Lib.hid hr
  clear S2 hr
  go_wp2
  go_ret
  exact ⟨r, rfl, HR.out, below_gb b1 g2 (Nat.le_refl _) z1⟩

set_option maxRecDepth 100000 in
set_option maxHeartbeats 1600000 in
theorem drawCodeName_t (A : Option Addr) (n c : Nat) (w : World) (h : ByR w A n) (hn : n ≤ 1048576) :
    Calls Tryd.prog 13 #[.slice A n c] w fun e w' => ∃ r : Int, e = .returned (.int .i64 r) ∧ (-1 ≤ r ∧ r ≤ 12) ∧ Below w.heap.size w w' := by
  have H := Lib.hid h
  clear h
  go_enter Tryd.func13, Tryd.ntmps13
  go_wp2_with fail
  refine (l00From_t A n c w H.out).mono ?_
  rintro e1 W1 ⟨rfl, S1, b1⟩
  have S1' := Lib.hid S1
  have z1 := b1.size
  clear S1
  go_wp2_with fail
  refine (pick_t w.heap.size n 0 14 _ S1'.out hn (by omega) (by omega)).mono ?_
  rintro e2 W2 ⟨r, k2, rfl, q0, q1, q2, S2, hk2, g2⟩
  have q4 : r < 14 := q1 (by omega)
  clear S2 q1 q2
  go_wp2
  go_ret
  exact ⟨_, rfl, by omega, below_gb b1 g2 (Nat.le_refl _) z1⟩

set_option maxRecDepth 100000 in
set_option maxHeartbeats 1600000 in
theorem drawReadDecimal_t (A : Option Addr) (n c : Nat) (w : World) (h : ByR w A n) (hn : n ≤ 1048576) :
    Calls Tryd.prog 8 #[.slice A n c] w fun e w' => ∃ r : ByteArray, e = .returned (.string r) ∧ r.size ≤ 2000 ∧ Below w.heap.size w w' := by
  have H := Lib.hid h
  clear h
  go_enter Tryd.func8, Tryd.ntmps8
  go_wp2_with fail
  refine (l00From_t A n c w H.out).mono ?_
  rintro e1 W1 ⟨rfl, S1, b1⟩
  have S1' := Lib.hid S1
  have z1 := b1.size
  clear S1
  go_wp2_with fail
  refine (any_t w.heap.size n 0 _ S1'.out hn (by omega)).mono ?_
  rintro e2 W2 ⟨r, k2, rfl, hr, S2, hk2, g2⟩
  have HR := Lib.hid hr
  have S2' := Lib.hid S2
  have d2 := below_gb b1 g2 (Nat.le_refl _) z1
  clear S2 hr
  go_wp2_with fail
  refine (dec_spec r _ HR.out).mono ?_
  rintro e3 W3 ⟨rfl, b3⟩
  have S3' := Lib.hid (S2'.out.grown (gb_of_below b3 none) (fun g e => by cases e))
  have d3 : Below w.heap.size w W3 := d2.trans (b3.mono d2.size)
  have hsz : (⟨(Lib.itoa r).toArray⟩ : ByteArray).size ≤ 1000 := itoa_sz HR.out
  generalize (⟨(Lib.itoa r).toArray⟩ : ByteArray) = T at hsz ⊢
  go_wp2_with fail
  refine (spoil_t w.heap.size n k2 T _ S3'.out hn (by omega) hsz).mono ?_
  rintro e4 W4 ⟨r4, k4, rfl, hr4, S4, hk4, g4⟩
  clear S4
  go_wp2
  go_ret
  exact ⟨r4, rfl, hr4, below_gb d3 g4 (Nat.le_refl _) d3.size⟩

set_option maxRecDepth 100000 in
set_option maxHeartbeats 1600000 in
theorem drawIsName_t (A : Option Addr) (n c : Nat) (w : World) (h : ByR w A n) (hn : n ≤ 1048576) :
    Calls Tryd.prog 12 #[.slice A n c] w fun e w' => ∃ r : ByteArray, e = .returned (.string r) ∧ r.size ≤ 2000 ∧ Below w.heap.size w w' := by
  have H := Lib.hid h
  clear h
  go_enter Tryd.func12, Tryd.ntmps12
  go_wp2_with fail
  refine (l00From_t A n c w H.out).mono ?_
  rintro e1 W1 ⟨rfl, S1, b1⟩
  have S1' := Lib.hid S1
  have z1 := b1.size
  clear S1
  go_wp2_with fail
  refine (text_t w.heap.size n 0 _ _ _ [⟨#[97]⟩, ⟨#[109, 105, 108, 108, 45, 51]⟩, ⟨#[97, 98, 99, 100, 101, 102, 103, 104, 105, 106, 107, 108]⟩, ⟨#[97, 98, 99, 100, 101, 102, 103, 104, 105, 106, 107, 108, 109]⟩, ⟨#[55, 97]⟩, ⟨#[85, 112]⟩, ⟨#[]⟩, ⟨#[120, 46, 121]⟩, ⟨#[45, 97]⟩, ⟨#[109, 49]⟩] _ (S1'.out.alloc _) hn (by omega) (by omega) (by omega) (by have := rdS_lit W1 9 [⟨#[97]⟩, ⟨#[109, 105, 108, 108, 45, 51]⟩, ⟨#[97, 98, 99, 100, 101, 102, 103, 104, 105, 106, 107, 108]⟩, ⟨#[97, 98, 99, 100, 101, 102, 103, 104, 105, 106, 107, 108, 109]⟩, ⟨#[55, 97]⟩, ⟨#[85, 112]⟩, ⟨#[]⟩, ⟨#[120, 46, 121]⟩, ⟨#[45, 97]⟩, ⟨#[109, 49]⟩]; exact this.mono (by simp)) (by have := S1'.out.bs; simp [ablk]; omega) (by simp; decide)).mono ?_
  rintro e2 W2 ⟨r, k2, rfl, hr, S2, hk2, g2⟩
  have S2' := Lib.hid S2
  have d2 := below_gb (b1.alloc z1 _) g2 (Nat.le_refl _) (by simp; omega)
  clear S2
  go_wp2_with fail
  refine (spoil_t w.heap.size n k2 r _ S2'.out hn (by omega) (by omega)).mono ?_
  rintro e4 W4 ⟨r4, k4, rfl, hr4, S4, hk4, g4⟩
  clear S4
  go_wp2
  go_ret
  exact ⟨r4, rfl, hr4, below_gb d2 g4 (Nat.le_refl _) d2.size⟩

set_option maxRecDepth 100000 in
set_option maxHeartbeats 1600000 in
theorem drawSplitWords_t (A : Option Addr) (n c : Nat) (w : World) (h : ByR w A n) (hn : n ≤ 1048576) :
    Calls Tryd.prog 10 #[.slice A n c] w fun e w' => ∃ r : ByteArray, e = .returned (.string r) ∧ r.size ≤ 2000 ∧ Below w.heap.size w w' := by
  have H := Lib.hid h
  clear h
  go_enter Tryd.func10, Tryd.ntmps10
  go_wp2_with fail
  refine (l00From_t A n c w H.out).mono ?_
  rintro e1 W1 ⟨rfl, S1, b1⟩
  have S1' := Lib.hid S1
  have z1 := b1.size
  clear S1
  go_wp2_with fail
  refine (pick_t w.heap.size n 0 6 _ S1'.out hn (by omega) (by omega)).mono ?_
  rintro e2 W2 ⟨r, k2, rfl, q0, q1, q2, S2, hk2, g2⟩
  have q4 : r < 6 := q1 (by omega)
  obtain ⟨m, rfl⟩ : ∃ m : Nat, r = (m : Int) := ⟨r.toNat, by omega⟩
  have S2' := Lib.hid S2
  have d2 := Lib.hid (below_gb b1 g2 (Nat.le_refl _) z1)
  clear S2 q1 q2 g2
  go_wp2
  go_loopw [4, 5] (fun oo kk wr => ∃ (j k3 : Nat) (o : ByteArray), oo = .string o ∧ kk = .int .i64 (j : Int) ∧ j ≤ 6 ∧ o.size + 16 * j ≤ 100 ∧ k3 + 2 * j ≤ k2 + 12 ∧ Hid (Src wr w.heap.size n k3) ∧ Hid (Below w.heap.size w wr)) (fun _ kk _ => (intOf kk).toNat)
  case atStart => exact ⟨m, k2, ⟨#[]⟩, rfl, rfl, by omega, by show 0 + 16 * m ≤ 100; omega, by omega, S2', d2⟩
  case round =>
    obtain ⟨j, k3, o, rfl, rfl, hj, ho, hk3, HSr, HB⟩ := hrel
    by_cases hj0 : 0 < j
    · have hj1 : (0 : Int) < (j : Int) := by omega
      go_wp2_with fail
      refine (text_t w.heap.size n k3 _ _ _ [⟨#[97]⟩, ⟨#[98, 99]⟩, ⟨#[32]⟩, ⟨#[32, 32]⟩, ⟨#[120, 32, 121]⟩] _ (HSr.out.alloc _) hn (by omega) (by omega) (by omega) (by have := rdS_lit wr 9 [⟨#[97]⟩, ⟨#[98, 99]⟩, ⟨#[32]⟩, ⟨#[32, 32]⟩, ⟨#[120, 32, 121]⟩]; exact this.mono (by simp)) (by have := HSr.out.bs; simp [ablk]; omega) (by simp; decide)).mono ?_
      rintro e4 W4 ⟨r4, k4, rfl, hr4, S4, hk4, g4⟩
      have S4' := Lib.hid S4
      have D4 := Lib.hid (below_gb (HB.out.alloc HB.out.size _) g4 (Nat.le_refl _) (by have := HB.out.size; simp; omega))
      have ho9 : o.size ≤ 100 := by omega
      clear S4 g4
      go_wp2
      exact ⟨⟨j - 1, k4, _, rfl, by rw [show ((j - 1 : Nat) : Int) = (j : Int) - 1 by omega], by omega, by rw [ByteArray.size_append]; omega, by omega, S4', D4⟩, by simp [intOf]; omega⟩
    · obtain rfl : j = 0 := by omega
      go_wp2
      go_ret
      exact ⟨o, rfl, by omega, HB.out⟩

end Go.Proofs.YtohfboelgocpdaaDoor
