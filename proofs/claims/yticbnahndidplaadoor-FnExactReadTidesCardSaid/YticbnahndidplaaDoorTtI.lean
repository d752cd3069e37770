/- TidesText of the program. -/
import Derived.Test.YticbnahndidplaaDoorTtS
import Derived.Test.YticbnahndidplaaDoorDecI
namespace Go.Proofs.YticbnahndidplaaDoor
open Go.RowKit

theorem dec_implU (n : Int) (t : ByteArray) (w : World) (hn : I64 n) (ht : PowTab w) (e : t = dB n) :
    Calls Tryd.prog 67 #[.int .i64 n] w fun e w' => e = .returned (.string t) ∧ Below w.heap.size w w' := by
  subst e
  exact dec_impl n w hn ht
/-- the words of the first k elements, then empty ones -/
def wsk (xs : List RTide) (n k : Nat) : List ByteArray := (List.range n).map fun j => if j < k then wdB (xs.getD j zTide) else ⟨#[]⟩
theorem wsk_len (xs : List RTide) (n k : Nat) : (wsk xs n k).length = n := by simp [wsk]
theorem wsk_set (xs : List RTide) (n k : Nat) : (wsk xs n k).set k (wdB (xs.getD k zTide)) = wsk xs n (k + 1) := by
  apply List.ext_getElem (by simp [wsk])
  intro j h1 h2
  rw [List.getElem_set]
  by_cases e : k = j
  · subst e; simp [wsk]
  · rw [if_neg e]
    simp only [wsk, List.getElem_map, List.getElem_range]
    by_cases c : j < k
    · rw [if_pos c, if_pos (by omega)]
    · rw [if_neg c, if_neg (by omega)]
theorem wsk_zero (xs : List RTide) (n : Nat) : wsk xs n 0 = List.replicate n ⟨#[]⟩ := by
  apply List.ext_getElem (by simp [wsk])
  intro j h1 h2
  simp [wsk]
theorem join_snoc (a : List UInt8) (r : List (List UInt8)) (x sep : List UInt8) : Lib.join (a :: r ++ [x]) sep = Lib.join (a :: r) sep ++ sep ++ x := by
  rw [List.cons_append, Lib.join_cons, Lib.join_cons]
  simp [Lib.joinTail]
theorem join_tx (xs : List RTide) (k : Nat) : Lib.join ((List.range k).map fun j => (wdB (xs.getD j zTide)).data.toList) [32] = (txN xs k).data.toList := by
  induction k with
  | zero => rfl
  | succ k ih =>
    rw [List.range_succ, List.map_append, List.map_singleton]
    by_cases c : 0 < k
    · obtain ⟨m, rfl⟩ : ∃ m, k = m + 1 := ⟨k - 1, by omega⟩
      have em : (List.range (m + 1)).map (fun j => (wdB (xs.getD j zTide)).data.toList) = (wdB (xs.getD 0 zTide)).data.toList :: ((List.range m).map Nat.succ).map (fun j => (wdB (xs.getD j zTide)).data.toList) := by rw [List.range_succ_eq_map]; rfl
      rw [em, join_snoc, ← em, ih]
      have e : txN xs (m + 1 + 1) = txN xs (m + 1) ++ ⟨#[32]⟩ ++ wdB (xs.getD (m + 1) zTide) := by
        show (if 0 < m + 1 then _ else _) ++ _ = _
        rw [if_pos (by omega)]
      rw [e]
      simp [ByteArray.data_append]
    · have hk : k = 0 := by omega
      subst hk
      rw [List.range_zero, List.map_nil, List.nil_append, Lib.join_one]
      simp [txN]
theorem wsk_join (xs : List RTide) (n : Nat) : Lib.join ((wsk xs n n).map (·.data.toList)) [32] = (txN xs n).data.toList := by
  rw [← join_tx]
  congr 1
  simp only [wsk, List.map_map]
  apply List.map_congr_left
  intro j hj
  have : j < n := List.mem_range.1 hj
  simp [this]
theorem WrS.at' {w : World} {lo b o n k : Nat} {xs : List ByteArray} (h : WrS w lo (some ⟨b, o, none⟩) n xs) (hk : k < n) : w.cell? ⟨b, o + k, none⟩ = some (.string (xs.getD k ⟨#[]⟩)) ∧ w.frozen? ⟨b, o + k, none⟩ = false := by
  obtain ⟨b', o', e, _, _, hc⟩ := h.2 (by omega)
  injection e with e
  injection e with e1 e2
  subst e1
  subst e2
  exact hc k hk
theorem wrs_new (w : World) (n : Nat) (m : Nat) (hm : m = n) : WrS (w.alloc (.cells (madeCells (Value.string ⟨#[]⟩).cells m) 9)) w.heap.size (some ⟨w.heap.size, 0, none⟩) n (List.replicate n ⟨#[]⟩) := by
  subst hm
  have h : (w.alloc (.cells (madeCells (Value.string ⟨#[]⟩).cells m) 9)).heap[w.heap.size]? = some (.cells (madeCells (Value.string ⟨#[]⟩).cells m) 9 (0, 0)) := heap_alloc_new w _
  refine ⟨by simp, fun _ => ⟨w.heap.size, 0, rfl, Nat.le_refl _, by simp, fun j hj => ⟨?_, frozen_of_row h _⟩⟩⟩
  rw [cell_of_row _ _ _ _ _ _ h]
  simp [madeCells, hj, Value.cells, Nat.mod_one, List.getD_eq_getElem?_getD]

set_option maxRecDepth 100000 in
set_option maxHeartbeats 1600000 in
theorem text1_t (x0 x1 : Int) (w : World) (i0 : I64 x0) (i1 : I64 x1) (hpow : PowTab w) (t : ByteArray) (ht : t = wdB ⟨x0, x1⟩) :
    Calls Tryd.prog 76 #[.agg #[.int .i64 x0, .int .i64 x1]] w fun e w' => e = .returned (.string t) ∧ Below w.heap.size w w' := by
  have HT := Lib.hid hpow
  obtain ⟨t0, ht0⟩ : ∃ t, t = dB x0 := ⟨_, rfl⟩
  obtain ⟨t1, ht1⟩ : ∃ t, t = dB x1 := ⟨_, rfl⟩
  have HW := Lib.hid (show t = t0 ++ ⟨#[58]⟩ ++ t1 by rw [ht, ht0, ht1]; rfl)
  have z0 : t0.size ≤ 21 := by rw [ht0]; exact dB_size _ i0
  have z1 : t1.size ≤ 21 := by rw [ht1]; exact dB_size _ i1
  have E0 := Lib.hid ht0
  have E1 := Lib.hid ht1
  have y0 : (t0 ++ ⟨#[58]⟩ : ByteArray).size = t0.size + 1 := by rw [ByteArray.size_append, sz1]
  clear ht ht0 ht1 hpow
  go_enter Tryd.func76, Tryd.ntmps76
  go_wp2_with fail
  refine wp_region_held_drew (S := fun w' => w'.cell? ⟨w.heap.size, 0, none⟩ = some (.int .i64 x0) ∧ w'.cell? ⟨w.heap.size, 1, none⟩ = some (.int .i64 x1)) (by kernel_rfl) ⟨by simp, by simp⟩ (fun hHeld => ?_)
  ((refine wpAnyH_take (i := 0) (oi := ⟨some 3, _, _, _, _, _⟩) (v := ?_) rfl (by kernel_rfl) (by kernel_rfl) (by kernel_rfl) (fun _ _ _ h => h) (Or.inl ⟨by rfl, ?_⟩) (by assumption) ?_; rotate_left 1; (focus (intro w hSw; (try dsimp only at hSw); go_simp <;> try (first | (with_reducible rfl) | (rw [if_neg (by omega)]) | (rw [if_pos (by omega)])))); try simp only [Act.put, List.setIfInBounds_toArray, List.set_cons_zero, List.set_cons_succ]); (refine wpAnyH_take (i := 1) (oi := ⟨some 4, _, _, _, _, _⟩) (v := ?_) rfl (by kernel_rfl) (by kernel_rfl) (by kernel_rfl) (fun _ _ _ h => h) (Or.inl ⟨by rfl, ?_⟩) (by assumption) ?_; rotate_left 1; (focus (intro w hSw; (try dsimp only at hSw); go_simp <;> try (first | (with_reducible rfl) | (rw [if_neg (by omega)]) | (rw [if_pos (by omega)])))); try simp only [Act.put, List.setIfInBounds_toArray, List.set_cons_zero, List.set_cons_succ]); (refine wpAnyH_take (i := 4) (oi := ⟨some 7, _, _, _, _, _⟩) (v := ?_) rfl (by kernel_rfl) (by kernel_rfl) (by kernel_rfl) (fun _ _ _ h => h) (Or.inl ⟨by rfl, ?_⟩) (by assumption) ?_; rotate_left 1; (focus (intro w hSw; (try dsimp only at hSw); go_simp <;> try (first | (with_reducible rfl) | (rw [if_neg (by omega)]) | (rw [if_pos (by omega)])))); try simp only [Act.put, List.setIfInBounds_toArray, List.set_cons_zero, List.set_cons_succ]); (refine wpAnyH_take (i := 5) (oi := ⟨some 8, _, _, _, _, _⟩) (v := ?_) rfl (by kernel_rfl) (by kernel_rfl) (by kernel_rfl) (fun _ _ _ h => h) (Or.inl ⟨by rfl, ?_⟩) (by assumption) ?_; rotate_left 1; (focus (intro w hSw; (try dsimp only at hSw); go_simp <;> try (first | (with_reducible rfl) | (rw [if_neg (by omega)]) | (rw [if_pos (by omega)])))); try simp only [Act.put, List.setIfInBounds_toArray, List.set_cons_zero, List.set_cons_succ]))
  refine wpAnyH_ready (rs := [2]) (by kernel_rfl) (by simp) ?_
  refine AllReadyH.cons (o := ⟨some 5, _, _, _, _, _⟩) rfl (fun K hK => ?_) AllReadyH.nil
  go_simp
  refine (dec_implU x0 t0 _ i0 (pow_below HT.out (by repeat (first | assumption | exact Below.refl _ _ | (refine Below.setCell ?_ (by first | omega | (simp; done) | (simp; omega)) _) | apply below_drewN | apply Below.drew | (refine Below.alloc ?_ (by first | omega | (simp; done) | (simp; omega)) _)))) E0.out).mono ?_
  rintro ea Wa ⟨rfl, ba⟩
  have yWa0 := (ba.cell (p := ⟨w.heap.size, 0, none⟩) (by first | omega | (simp; done) | (simp; omega))).trans hHeld.1
  have yWa1 := (ba.cell (p := ⟨w.heap.size, 1, none⟩) (by first | omega | (simp; done) | (simp; omega))).trans hHeld.2
  have gWa : w.heap.size < Wa.heap.size := (by have := ba.size; (try simp at this); omega)
  have da : Below w.heap.size w Wa := (by repeat (first | assumption | exact Below.refl _ _ | (refine Below.trans ?_ (ba.mono (by first | omega | (simp; done) | (simp; omega)))) | (refine Below.setCell ?_ (by first | omega | (simp; done) | (simp; omega)) _) | apply below_drewN | apply Below.drew | (refine Below.alloc ?_ (by first | omega | (simp; done) | (simp; omega)) _)))
  clear hHeld
  (refine hK.out _ _ ?_ (fun hHeld => ?_))
  · exact ⟨yWa0, yWa1⟩
  ((refine wpAnyH_take (i := 3) (oi := ⟨some 6, _, _, _, _, _⟩) (v := ?_) rfl (by kernel_rfl) (by kernel_rfl) (by kernel_rfl) (fun _ _ _ h => h) (Or.inl ⟨by rfl, ?_⟩) (by assumption) ?_; rotate_left 1; (focus (intro w hSw; (try dsimp only at hSw); go_simp <;> try (first | (with_reducible rfl) | (rw [if_neg (by omega)]) | (rw [if_pos (by omega)])))); try simp only [Act.put, List.setIfInBounds_toArray, List.set_cons_zero, List.set_cons_succ]))
  refine wpAnyH_ready (rs := [6]) (by kernel_rfl) (by simp) ?_
  refine AllReadyH.cons (o := ⟨some 9, _, _, _, _, _⟩) rfl (fun K hK => ?_) AllReadyH.nil
  go_simp
  refine (dec_implU x1 t1 _ i1 (pow_below HT.out da) E1.out).mono ?_
  rintro eb Wb ⟨rfl, bb⟩
  have yWb0 := (bb.cell (p := ⟨w.heap.size, 0, none⟩) (by first | omega | (simp; done) | (simp; omega))).trans hHeld.1
  have yWb1 := (bb.cell (p := ⟨w.heap.size, 1, none⟩) (by first | omega | (simp; done) | (simp; omega))).trans hHeld.2
  have gWb : w.heap.size < Wb.heap.size := (by have := bb.size; (try simp at this); omega)
  have db : Below w.heap.size w Wb := da.trans (bb.mono (by omega))
  clear hHeld
  (refine hK.out _ _ ?_ (fun hHeld => ?_))
  · exact ⟨yWb0, yWb1⟩
  ((refine wpAnyH_take (i := 7) (oi := ⟨some 10, _, _, _, _, _⟩) (v := ?_) rfl (by kernel_rfl) (by kernel_rfl) (by kernel_rfl) (fun _ _ _ h => h) (Or.inl ⟨by rfl, ?_⟩) (by assumption) ?_; rotate_left 1; (focus (intro w hSw; (try dsimp only at hSw); go_simp <;> try (first | (with_reducible rfl) | (rw [if_neg (by omega)]) | (rw [if_pos (by omega)])))); try simp only [Act.put, List.setIfInBounds_toArray, List.set_cons_zero, List.set_cons_succ]); (refine wpAnyH_take (i := 8) (oi := ⟨some 2, _, _, _, _, _⟩) (v := ?_) rfl (by kernel_rfl) (by kernel_rfl) (by kernel_rfl) (fun _ _ _ h => h) (Or.inl ⟨by rfl, ?_⟩) (by assumption) ?_; rotate_left 1; (focus (intro w hSw; (try dsimp only at hSw); go_simp <;> try (first | (with_reducible rfl) | (rw [if_neg (by omega)]) | (rw [if_pos (by omega)])))); try simp only [Act.put, List.setIfInBounds_toArray, List.set_cons_zero, List.set_cons_succ]))
  refine wpAnyH_done (by kernel_rfl) ?_ _
  go_wp2
  go_ret
  exact ⟨ret_str HW.out.symm, (by repeat (first | assumption | exact Below.refl _ _ | (refine Below.trans ?_ (db.mono (by first | omega | (simp; done) | (simp; omega)))) | (refine Below.setCell ?_ (by first | omega | (simp; done) | (simp; omega)) _) | apply below_drewN | apply Below.drew | (refine Below.alloc ?_ (by first | omega | (simp; done) | (simp; omega)) _)))⟩

set_option maxRecDepth 100000 in
set_option maxHeartbeats 1600000 in
theorem joinW_t (A : Option Addr) (n c : Nat) (xs : List RTide) (w : World) (hn : n ≤ 1000) (ha : Rd_Tide w w.heap.size A n xs) (hpow : PowTab w) (hv : TdOk n xs) :
    Calls Tryd.prog 75 #[.slice A n c, .func (.func 76) #[] #[]] w fun e w' => e = .returned (.string (txN xs n)) ∧ Below w.heap.size w w' := by
  have HA := Lib.hid ha
  have HT := Lib.hid hpow
  have HV := Lib.hid hv
  obtain ⟨i0, hi, hz0, hz1, hz2⟩ := info_parts info_str
  have hmk := fun W => run_make_rowN (P := Tryd.prog) 52 9 i0 (.string ⟨#[]⟩) Tryd.underlying52 hi hz0 .i64 .i64 n n (Nat.le_refl _) (by rw [hz2]; omega) (by omega) W
  rw [hz1] at hmk
  clear ha hpow hv hi hz0 hz1 hz2
  go_enter Tryd.func75, Tryd.ntmps75
  go_wp2
  go_loopw [6, 7, 13] (fun _ _ i wr => ∃ k : Nat, k ≤ n ∧ i = .int .i64 (k : Int) ∧ Below w.heap.size w wr ∧ w.heap.size < wr.heap.size ∧ WrS wr w.heap.size (some ⟨w.heap.size, 0, none⟩) n (wsk xs n k)) (fun _ _ i _ => n - (intOf i).toNat)
  case atStart => exact ⟨0, by omega, rfl, (Below.refl _ _).alloc (Nat.le_refl _) _, by simp, by rw [wsk_zero]; exact (wrs_new w n _ (by simp))⟩
  case round =>
    obtain ⟨k, hk, rfl, hb, hz, hws⟩ := hrel
    have hsz := hb.size
    by_cases hlt : k < n
    · obtain ⟨ab, o, rfl, hbB, hc⟩ := (HA.out.below hb).at (by omega)
      have p := hc k hlt
      clear hc
      have hd := td_el HV.out hlt
      have HS := Lib.hid (wsk_set xs n k)
      obtain ⟨x, hx⟩ := getTide xs k
      rw [← hx] at p hd HS
      clear hx
      obtain ⟨x0, x1⟩ := x
      obtain ⟨p0, p1⟩ := p
      obtain ⟨i0, i1⟩ := sec_i64 hd
      simp only at p0 p1 i0 i1
      have hne : w.heap.size ≠ wr.heap.size := by omega
      obtain ⟨t, ht⟩ : ∃ t, t = wdB ⟨x0, x1⟩ := ⟨_, rfl⟩
      have HTT := Lib.hid ht
      rw [← ht] at HS
      have HWS := Lib.hid hws
      clear ht hd hws
      go_wp2_with (first | (go_at_call 76; refine (text1_t x0 x1 _ i0 i1 (pow_below HT.out (by repeat (first | assumption | exact Below.refl _ _ | (refine Below.trans ?_ (hb.mono (by first | omega | (simp; done) | (simp; omega)))) | (refine Below.setCell ?_ (by first | omega | (simp; done) | (simp; omega)) _) | apply below_drewN | apply Below.drew | (refine Below.alloc ?_ (by first | omega | (simp; done) | (simp; omega)) _)))) t HTT.out).mono ?_; rintro e4 W4 ⟨rfl, b4⟩; have s4 : wr.heap.size < W4.heap.size := (by have := b4.size; (try simp at this); omega); have d4 : Below wr.heap.size wr W4 := (by repeat (first | assumption | exact Below.refl _ _ | (refine Below.trans ?_ (b4.mono (by first | omega | (simp; done) | (simp; omega)))) | (refine Below.setCell ?_ (by first | omega | (simp; done) | (simp; omega)) _) | apply below_drewN | apply Below.drew | (refine Below.alloc ?_ (by first | omega | (simp; done) | (simp; omega)) _))); have hw4 := HWS.out.below d4; obtain ⟨c9, f9⟩ := hw4.at' hlt; simp only [Nat.zero_add] at c9 f9; have l4 : w.heap.size < W4.heap.size := (by omega)))
      go_roundw
      case rel => exact ⟨k + 1, by omega, by go_num, (hb.trans (d4.mono hsz)).setCell (Nat.le_refl _) _, by simp [World.setCell]; omega, by
        have h5 := hw4.put hlt t
        rw [HS.out] at h5
        simp only [Nat.zero_add] at h5
        exact h5⟩
      case measure => simp [intOf]; omega
    · obtain rfl : k = n := by omega
      have HR := Lib.hid hws
      have h1 := HV.out.2.1
      have h40 := HV.out.2.2
      have hj : (Lib.join ((wsk xs k k).map (·.data.toList)) (ByteArray.mk #[32]).data.toList).length ≤ 140737488355328 := by
        have e := wsk_join xs k
        rw [show (ByteArray.mk #[32]).data.toList = [32] from rfl, e]
        have := txN_size HV.out k (Nat.le_refl _)
        show (txN xs k).size ≤ _
        omega
      have HJ := Tryd.strings_Join w.heap.size 0 k (wsk xs k k) ⟨#[32]⟩ wr (fun j x hjx => by
        have hlt : j < (wsk xs k k).length := (List.getElem?_eq_some_iff.1 hjx).1
        rw [wsk_len] at hlt
        have h6 := (HR.out.at' hlt).1
        rw [h6, List.getD_eq_getElem?_getD, hjx]
        rfl) hz (by rw [wsk_len]; omega) (by rw [wsk_len]; exact Nat.le_refl _) hj
      rw [wsk_len, show (ByteArray.mk #[32]).data.toList = [32] from rfl, wsk_join] at HJ
      have HJ := Lib.hid HJ
      clear hws hj
      go_wp2_with fail
      refine HJ.out.mono ?_
      rintro e7 W7 ⟨rfl, b7⟩
      go_wp2
      go_ret
      exact ⟨ret_str (by cases txN xs k; simp), (by repeat (first | assumption | exact Below.refl _ _ | (refine Below.trans ?_ (b7.mono (by first | omega | (simp; done) | (simp; omega)))) | (refine Below.trans ?_ (hb.mono (by first | omega | (simp; done) | (simp; omega)))) | (refine Below.setCell ?_ (by first | omega | (simp; done) | (simp; omega)) _) | apply below_drewN | apply Below.drew | (refine Below.alloc ?_ (by first | omega | (simp; done) | (simp; omega)) _)))⟩

def r0_TidesText (xa0 : List RTide) : ByteArray := if TdOk xa0.length xa0 then txN xa0 xa0.length else ⟨#[]⟩

set_option maxHeartbeats 1600000 in
theorem tidesText_t (A : Option Addr) (n c : Nat) (xs : List RTide) (w : World) (hn : n ≤ 1048576) (hcap : n ≤ c) (ha : Rd_Tide w w.heap.size A n xs) (hpow : PowTab w) :
    Calls Tryd.prog 49 #[.slice A n c] w fun e w' => e = .returned (.string (r0_TidesText xs)) ∧ Below w.heap.size w w' := by
  have hln := ha.len
  have HA := Lib.hid ha
  have HT := Lib.hid hpow
  clear ha hpow
  by_cases h : TdOk n xs
  · have e0 : r0_TidesText xs = txN xs n := by unfold r0_TidesText; rw [hln, if_pos h]
    rw [e0]
    have HV := Lib.hid h
    have h30 := h.2.2
    clear e0 h
    go_enter Tryd.func49, Tryd.ntmps49
    go_wp2_with (first | (go_at_call 74; refine (validTides_any _ _ _ xs _ hn hcap HA.out true ⟨fun _ => HV.out, fun _ => rfl⟩).mono ?_; rintro e W1 ⟨rfl, b1⟩; have s1 := b1.size) | (go_at_call 75; refine (joinW_t _ _ _ xs _ (by omega) ((HA.out.below b1).mono s1) (pow_below HT.out b1) HV.out).mono ?_; rintro e2 W2 ⟨rfl, b2⟩))
    go_ret
    exact ⟨rfl, b1.trans (b2.mono s1)⟩
  · have e0 : r0_TidesText xs = ⟨#[]⟩ := by unfold r0_TidesText; rw [hln, if_neg h]
    rw [e0]
    have HV := Lib.hid h
    clear e0 h
    go_enter Tryd.func49, Tryd.ntmps49
    go_wp2_with (first | (go_at_call 74; refine (validTides_any _ _ _ xs _ hn hcap HA.out false ⟨fun h => by simp at h, fun h => absurd h HV.out⟩).mono ?_; rintro e W1 ⟨rfl, b1⟩))
    go_ret
    exact ⟨rfl, b1⟩

end Go.Proofs.YticbnahndidplaaDoor
