/- Rows of rows of mills: copies, marks. -/
import Derived.Test.YtlkgbemlagfdjaaMilSS
namespace Go.Proofs.Ytlkgbemlagfdjaa
open Go.RowKit

structure ToSt (g n : Nat) (xss : List (List RMill)) (w : World) (k : Nat) (f : Nat → Option Addr) (c : Nat → Nat) : Prop where
  lt : g < w.heap.size
  cel : ∀ j, j < n → w.cell? ⟨g, j, none⟩ = some (if j < k then .slice (f j) (mGet xss j).length (c j) else .slice none 0 0) ∧ w.frozen? ⟨g, j, none⟩ = false
  row : ∀ j, j < k → Wr_Mill w (g + 1) (f j) (mGet xss j).length (mGet xss j) ∧ ∀ i, i < j → 0 < (mGet xss i).length → 0 < (mGet xss j).length → ablk (f i) ≠ ablk (f j)
theorem wrM_set {w : World} {lo m : Nat} {A : Option Addr} {xs : List RMill} (h : Wr_Mill w lo A m xs) {a : Addr} (ha : a.block < lo) (u : Value) : Wr_Mill (w.setCell a u) lo A m xs :=
  WrC.other (b := a.block) h (gb_setCell w a u) (fun hn e => by
    obtain ⟨b, off, rfl, h0, _⟩ := h.2 hn
    have e' : b = a.block := by simpa [ablk] using e
    omega)
theorem ToSt.step {g n k : Nat} {xss : List (List RMill)} {w w1 : World} {f : Nat → Option Addr} {c : Nat → Nat} (h : ToSt g n xss w k f c) (hk : k < n) (hb : Below w.heap.size w w1) {B : Option Addr} {d : Nat} (hw : Wr_Mill w1 w.heap.size B (mGet xss k).length (mGet xss k)) :
    ToSt g n xss (w1.setCell ⟨g, k, none⟩ (.slice B (mGet xss k).length d)) (k + 1) (fun j => if j = k then B else f j) (fun j => if j = k then d else c j) := by
  have hg := h.lt
  refine ⟨by simp [World.setCell]; exact Nat.lt_of_lt_of_le hg hb.size, fun j hj => ?_, fun j hj => ?_⟩
  · obtain ⟨h1, h2⟩ := h.cel j hj
    have h1' := (hb.cell (p := ⟨g, j, none⟩) hg).trans h1
    have h2' := (hb.frozen (p := ⟨g, j, none⟩) hg).trans h2
    refine ⟨?_, by simpa using h2'⟩
    by_cases e : j = k
    · subst e
      rw [World.cell?_setCell_same w1 _ _ h1', if_pos (by omega)]
      simp
    · rw [World.cell?_setCell_other w1 _ _ _ (fun h => e (by simpa using h.symm)), h1']
      by_cases h3 : j < k
      · rw [if_pos h3, if_pos (by omega)]
        simp [e]
      · rw [if_neg h3, if_neg (by omega)]
  · by_cases e : j = k
    · subst e
      refine ⟨?_, fun i hi h3 h4 => ?_⟩
      · simp only [if_pos]
        exact wrM_set (hw.lower (by omega)) (by simp) _
      · have hi' : ¬ i = j := by omega
        simp only [if_pos, if_neg hi']
        obtain ⟨b1, off1, e1, _, hb1, _⟩ := (h.row i hi).1.2 h3
        obtain ⟨b2, off2, e2, hb2, _, _⟩ := hw.2 h4
        rw [e1, e2]
        simp [ablk]
        omega
    · have hj' : j < k := by omega
      obtain ⟨r1, r2⟩ := h.row j hj'
      refine ⟨?_, fun i hi h3 h4 => ?_⟩
      · simp only [if_neg e]
        exact wrM_set (r1.below hb) (by simp) _
      · have hi' : ¬ i = k := by omega
        simp only [if_neg e, if_neg hi']
        exact r2 i hi h3 h4
theorem info_rowM : (Try.prog.info? 65).map (fun i => (i.zero, i.size, i.bytes)) = some (some (.slice none 0 0), 1, 24) := by kernel_rfl
theorem ToSt.new (W : World) (n m : Nat) (xss : List (List RMill)) (E : TypeId) (hm : m = n) : ToSt W.heap.size n xss (W.alloc (.cells (madeCells (Value.slice none 0 0).cells m) E)) 0 (fun _ => none) (fun _ => 0) := by
  subst hm
  have h : (W.alloc (.cells (madeCells (Value.slice none 0 0).cells m) E)).heap[W.heap.size]? = some (.cells (madeCells (Value.slice none 0 0).cells m) E (0, 0)) := heap_alloc_new W _
  refine ⟨by simp, fun j hj => ⟨?_, frozen_of_row h _⟩, fun j hj => absurd hj (by omega)⟩
  rw [cell_of_row _ _ _ _ _ _ h]
  simp [madeCells, hj, Value.cells, Nat.mod_one]

set_option maxHeartbeats 1600000 in
theorem toMillSS_x (A : Option Addr) (n c : Nat) (xss : List (List RMill)) (w : World) (hn : totSS xss ≤ 1048576) (ha : Rd_MillSS w w.heap.size A n xss) :
    Calls Try.prog 22 #[.slice A n c] w fun e w' => ∃ B d, e = .returned (.slice B n d) ∧ Below w.heap.size w w' ∧ Wr_MillSS w' w.heap.size w'.heap.size B n xss := by
  have hl := ha.1
  have HA := Lib.hid ha
  unfold totSS at hn
  rw [hl] at hn
  obtain ⟨i0, hi, hz0, hz1, hz2⟩ := info_parts info_rowM
  have hmk := fun W => run_make_rowN (P := Try.prog) 34 65 i0 (.slice none 0 0) Try.underlying34 hi hz0 .i64 .i64 n n (Nat.le_refl _) (by rw [hz2]; omega) (by omega) W
  rw [hz1] at hmk
  obtain ⟨cs, hcs⟩ : ∃ cs, cs = madeCells (Value.slice none 0 0).cells (n * 1) := ⟨_, rfl⟩
  rw [← hcs] at hmk
  have HT := Lib.hid (show ToSt w.heap.size n xss (w.alloc (.cells cs 65)) 0 (fun _ => none) (fun _ => 0) by rw [hcs]; exact ToSt.new w n (n * 1) xss _ (by omega))
  clear ha hi hz0 hz1 hz2 hcs
  go_enter Try.func22, Try.ntmps22
  go_wp2
  go_loopw [4] (fun i wr => ∃ (k : Nat) (f : Nat → Option Addr) (cc : Nat → Nat), k ≤ n ∧ i = .int .i64 (k : Int) ∧ Below w.heap.size w wr ∧ Hid (ToSt w.heap.size n xss wr k f cc)) (fun i _ => n - (intOf i).toNat)
  case atStart => exact ⟨0, _, _, by omega, rfl, (Below.refl _ _).alloc (Nat.le_refl _) _, HT.out⟩
  case round =>
    obtain ⟨k, f, cc, hk, rfl, hb, hT⟩ := hrel
    have hg := hT.out.lt
    by_cases hlt : k < n
    · obtain ⟨b, off, rfl, hB, hc⟩ := HA.out.2 (by omega)
      obtain ⟨A', c', h1, h3⟩ := hc k hlt
      have c1 := (hb.cell (p := ⟨b, off + k, none⟩) hB).trans h1
      have hm := lenSS_at xss hlt
      have R1 := Lib.hid (Rd_Mill.mono (h3.below hb) hb.size)
      have ST := Lib.hid (fun w1 (h : Below wr.heap.size wr w1) (B : Option Addr) (d : Nat) (hw : Wr_Mill w1 wr.heap.size B (mGet xss k).length (mGet xss k)) => hT.out.step hlt h (d := d) hw)
      obtain ⟨e1, e2⟩ := hT.out.cel k hlt
      rw [if_neg (by omega)] at e1
      clear hc h1 h3
      obtain ⟨xs, hx⟩ : ∃ xs, xs = mGet xss k := ⟨_, rfl⟩
      rw [← hx] at c1 hm R1 ST
      obtain ⟨l, hl9⟩ : ∃ l, l = xs.length := ⟨_, rfl⟩
      rw [← hl9] at c1 hm R1 ST
      clear hx hl9
      go_wp2_with (go_at_call 60; refine (toMillS_x A' l c' xs _ (by omega) R1.out).mono ?_; rintro ev w1 ⟨B1, d1, rfl, b1, x1⟩; have f1 := (b1.cell (p := ⟨w.heap.size, k, none⟩) hg).trans e1; have f2 := (b1.frozen (p := ⟨w.heap.size, k, none⟩) hg).trans e2)
      go_roundw
      case rel => exact ⟨k + 1, _, _, by omega, by go_num, (hb.trans (b1.mono hb.size)).setCell (Nat.le_refl _) _, ST.out w1 b1 B1 d1 x1⟩
      case measure => simp [intOf]; omega
    · obtain rfl : k = n := by omega
      have hw : Wr_MillSS wr w.heap.size wr.heap.size (some ⟨w.heap.size, 0, none⟩) k xss := ⟨hl, Nat.le_refl _, fun hn => ⟨w.heap.size, f, cc, rfl, Nat.le_refl _, hg, fun j hj => by
        obtain ⟨h1, _⟩ := hT.out.cel j hj
        obtain ⟨r1, r2⟩ := hT.out.row j hj
        rw [if_pos hj] at h1
        exact ⟨h1, r1.lower (by omega), r1.lt, fun hp e => by
          obtain ⟨b9, o9, e9, h9, _⟩ := r1.2 hp
          rw [e9] at e
          have : b9 = w.heap.size := by simpa [ablk] using e
          omega, r2⟩⟩⟩
      go_wp2
      go_ret
      first
      | exact ⟨_, _, rfl, hb, hw⟩
      | exact ⟨_, ⟨_, rfl⟩, hb, hw⟩

set_option maxHeartbeats 1600000 in
theorem markMillSS_x (lo hi hi2 : Nat) (A : Option Addr) (n c : Nat) (xss : List (List RMill)) (k0 : Int) (w : World) (h1 : 0 ≤ k0) (h2 : k0 ≤ 140737484161024) (_hh : hi2 ≤ w.heap.size) (hn : totSS xss ≤ 1048576) (ha : Wr_MillSS w lo hi A n xss) (_ : True) :
    Calls Try.prog 30 #[.slice A n c, .int .i64 k0] w fun e w' => e = .returned (.int .i64 (k0 + 4 * (lenSS xss n : Int))) ∧ Chg lo hi w w' ∧ w.heap.size ≤ w'.heap.size := by
  have hl := ha.1
  unfold totSS at hn
  rw [hl] at hn
  by_cases hz : n = 0
  · subst hz
    go_enter Try.func30, Try.ntmps30
    go_wp2
    go_loop [1, 5] (fun q i => i = .int .i64 0 ∧ q = .int .i64 k0) (fun _ _ => 0)
    case atStart => exact ⟨rfl, rfl⟩
    case round =>
      obtain ⟨rfl, rfl⟩ := hrel
      go_wp2
      go_ret
      exact ⟨ret_int (by simp [lenSS]), Chg.refl _ _ _, Nat.le_refl _⟩
  · have hsz := ha.2.1
    obtain ⟨b, f, cc, rfl, hlo, hbh, hc⟩ := ha.2.2 (by omega)
    have HC := Lib.hid hc
    clear ha hc
    go_enter Try.func30, Try.ntmps30
    go_wp2
    go_loopw [1, 5] (fun q i wr => ∃ k : Nat, k ≤ n ∧ i = .int .i64 (k : Int) ∧ q = .int .i64 (k0 + 4 * (lenSS xss k : Int)) ∧ Chg lo hi w wr ∧ Hid (∀ j, j < n → wr.cell? ⟨b, j, none⟩ = some (.slice (f j) (mGet xss j).length (cc j)) ∧ (k ≤ j → Wr_Mill wr lo (f j) (mGet xss j).length (mGet xss j)))) (fun _ i _ => n - (intOf i).toNat)
    case atStart => exact ⟨0, by omega, rfl, by simp [lenSS], Chg.refl _ _ _, fun j hj => ⟨(HC.out j hj).1, fun _ => (HC.out j hj).2.1⟩⟩
    case round =>
      obtain ⟨k, hk, rfl, rfl, hg, hH⟩ := hrel
      have hgz := hg.size
      by_cases hlt : k < n
      · obtain ⟨c1, r1⟩ := hH.out k hlt
        have r1 := r1 (Nat.le_refl _)
        have hm := lenSS_at xss hlt
        have hs : lenSS xss (k + 1) = lenSS xss k + (mGet xss k).length := rfl
        have HS := Lib.hid hs
        clear hs
        obtain ⟨q1, q2, q3, q4⟩ := (HC.out k hlt).2
        have key : ∃ l1 l2, Wr_Mill wr l1 (f k) (mGet xss k).length (mGet xss k) ∧ Lt l2 (f k) (mGet xss k).length ∧ l2 ≤ wr.heap.size ∧ (l2 ≤ hi ∧ (lo ≤ l1 ∨ l2 = 0)) ∧ (∀ w1, Chg l1 l2 wr w1 → ∀ j, j < n → w1.cell? ⟨b, j, none⟩ = some (.slice (f j) (mGet xss j).length (cc j)) ∧ (k + 1 ≤ j → Wr_Mill w1 lo (f j) (mGet xss j).length (mGet xss j))) := by
          by_cases h0 : 0 < (mGet xss k).length
          · obtain ⟨b', hb', hlo', hbs', hw', hL'⟩ := Wr_Mill.tight r1 h0
            have hbhi : b' < hi := q2 h0 b' hb'
            have hne : b ≠ b' := fun e => q3 h0 (by rw [hb', e])
            refine ⟨b', b' + 1, hw', hL', by omega, ⟨by omega, .inl hlo'⟩, fun w1 hcg j hj => ?_⟩
            obtain ⟨c2, r2⟩ := hH.out j hj
            refine ⟨(hcg.cell (by omega) (by omega)).trans c2, fun hj1 => ?_⟩
            have r2 := r2 (by omega)
            by_cases h3 : 0 < (mGet xss j).length
            · obtain ⟨b'', hb'', hlo'', hbs'', hw'', hL''⟩ := Wr_Mill.tight r2 h3
              have hne2 : b' ≠ b'' := fun e => (HC.out j hj).2.2.2.2 k (by omega) h0 h3 (by rw [hb', hb'', e])
              exact (hw''.chg hL'' hcg (by omega)).lower hlo''
            · exact ⟨r2.1, fun h => absurd h h3⟩
          · refine ⟨0, 0, ⟨r1.1, fun h => absurd h h0⟩, fun h => absurd h h0, by omega, ⟨by omega, .inr rfl⟩, fun w1 hcg j hj => ?_⟩
            obtain ⟨c2, r2⟩ := hH.out j hj
            refine ⟨(hcg.cell (by omega) (by omega)).trans c2, fun hj1 => ?_⟩
            have r2 := r2 (by omega)
            by_cases h3 : 0 < (mGet xss j).length
            · obtain ⟨b'', hb'', hlo'', hbs'', hw'', hL''⟩ := Wr_Mill.tight r2 h3
              exact (hw''.chg hL'' hcg (by omega)).lower hlo''
            · exact ⟨r2.1, fun h => absurd h h3⟩
        obtain ⟨l1, l2, hw, hL, hl2, ⟨hlh, hll⟩, hst⟩ := key
        have HST := Lib.hid hst
        have HW := Lib.hid hw
        have HL := Lib.hid hL
        clear hst hw hL r1 q1 q2 q3 q4
        obtain ⟨l, hl9⟩ : ∃ l, l = (mGet xss k).length := ⟨_, rfl⟩
        rw [← hl9] at c1 hm HS HW HL
        obtain ⟨s, hs9⟩ : ∃ s, s = lenSS xss k := ⟨_, rfl⟩
        rw [← hs9] at hm HS ⊢
        obtain ⟨t, ht9⟩ : ∃ t, t = lenSS xss n := ⟨_, rfl⟩
        rw [← ht9] at hm hn
        clear hl9 hs9 ht9
        have i1 := IntWalk.i64_in (k0 + 4 * (s : Int)) (by omega)
        go_wp2_with (go_at_call 71; refine (markMillS_x l1 l2 (f k) l (cc k) (mGet xss k) _ _ (by omega) (by omega) hl2 (by omega) HW.out HL.out).mono ?_; rintro e1 w1 ⟨rfl, b1, x1⟩)
        go_roundw
        case rel => exact ⟨k + 1, by omega, by go_num, by rw [HS.out]; congr 1; omega, hg.trans2 (by
          rcases hll with h | h
          · exact b1.wide h hlh
          · exact ⟨b1.os, b1.tape, b1.output, b1.size, fun i hi' _ => b1.block i hi' (by omega)⟩), HST.out w1 b1⟩
        case measure => simp [intOf]; omega
      · obtain rfl : k = n := by omega
        go_wp2
        go_ret
        exact ⟨rfl, hg, hg.size⟩

end Go.Proofs.Ytlkgbemlagfdjaa
