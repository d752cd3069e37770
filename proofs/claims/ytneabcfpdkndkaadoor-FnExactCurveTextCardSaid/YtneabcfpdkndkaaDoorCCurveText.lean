/- Contracts of CurveText: written by mktext.py. -/
import Derived.Test.YtneabcfpdkndkaaDoorText
import Derived.Test.YtneabcfpdkndkaaDoorCurveM
import Derived.Test.YtneabcfpdkndkaaDoorSCurve
import Derived.Test.YtneabcfpdkndkaaDoorCurveI
import Derived.Test.YtneabcfpdkndkaaDoorRec
import Derived.Lib.Join
namespace Go.Proofs.YtneabcfpdkndkaaDoor
open Go.RowKit

def wordB (l v : Int) : ByteArray := dB l ++ ⟨#[58]⟩ ++ dB v
def spB (k : Nat) (o : ByteArray) : ByteArray := if 0 < k then o ++ ⟨#[32]⟩ else o
def curveB (ls vs : List Int) : Nat → ByteArray
  | 0 => ⟨#[]⟩
  | k + 1 => spB k (curveB ls vs k) ++ wordB (ls.getD k 0) (vs.getD k 0)
def wordsB (ls vs : List Int) (n : Nat) : List ByteArray := (List.range n).map fun k => wordB (ls.getD k 0) (vs.getD k 0)
theorem wordsB_len (ls vs : List Int) (n : Nat) : (wordsB ls vs n).length = n := by simp [wordsB]
theorem app_list (a b : ByteArray) : (a ++ b).data.toList = a.data.toList ++ b.data.toList := by simp [ByteArray.data_append]
theorem joinTail_snoc (sep : List UInt8) (r : List (List UInt8)) (y : List UInt8) : Lib.joinTail sep (r ++ [y]) = Lib.joinTail sep r ++ sep ++ y := by simp [Lib.joinTail, List.append_assoc]
theorem words_tail (f : Nat → ByteArray) (c : Nat → ByteArray) (h0 : c 1 = f 0) (h : ∀ k, c (k + 2) = c (k + 1) ++ ⟨#[32]⟩ ++ f (k + 1)) : ∀ m, (c (m + 1)).data.toList = (f 0).data.toList ++ Lib.joinTail [32] ((List.range m).map fun k => (f (k + 1)).data.toList) := by
  intro m
  induction m with
  | zero => rw [h0]; simp [Lib.joinTail]
  | succ m ih =>
    rw [h, app_list, app_list, ih, List.range_succ, List.map_append, List.map_cons, List.map_nil, joinTail_snoc]
    simp [List.append_assoc]
theorem words_join (f : Nat → ByteArray) (c : Nat → ByteArray) (h0 : c 1 = f 0) (h : ∀ k, c (k + 2) = c (k + 1) ++ ⟨#[32]⟩ ++ f (k + 1)) (n : Nat) (hn : 0 < n) : Lib.join (((List.range n).map f).map (·.data.toList)) [32] = (c n).data.toList := by
  obtain ⟨m, rfl⟩ : ∃ m, n = m + 1 := ⟨n - 1, by omega⟩
  rw [words_tail f c h0 h m, List.range_succ_eq_map, List.map_cons, List.map_cons, Lib.join_cons, List.map_map, List.map_map]
  rfl
theorem curve_join (ls vs : List Int) (n : Nat) (hn : 0 < n) : Lib.join ((wordsB ls vs n).map (·.data.toList)) [32] = (curveB ls vs n).data.toList :=
  words_join (fun k => wordB (ls.getD k 0) (vs.getD k 0)) (curveB ls vs) (by
    show spB 0 ⟨#[]⟩ ++ _ = _
    rw [spB, if_neg (by omega)]
    exact ByteArray.empty_append) (fun k => by
    show spB (k + 1) _ ++ _ = _
    rw [spB, if_pos (by omega)]) n hn
theorem wordB_size (l v : Int) (h0 : I64 l) (h1 : I64 v) : (wordB l v).size ≤ 43 := by
  have := dB_size _ h0
  have := dB_size _ h1
  have e : (⟨#[58]⟩ : ByteArray).size = 1 := rfl
  rw [wordB, ByteArray.size_append, ByteArray.size_append, e]
  omega
theorem spB_size (k : Nat) (o : ByteArray) : (spB k o).size ≤ o.size + 1 := by
  unfold spB
  split
  · rw [ByteArray.size_append]
    exact Nat.le_refl _
  · omega
theorem curve_i64 {ls vs : List Int} (h : CurveOk ls vs) {k : Nat} (hk : k < ls.length) : I64 (ls.getD k 0) ∧ I64 (vs.getD k 0) := by
  have h1 := (h.2.2.1).bd hk
  have h2 := (h.2.2.2.1).bd (show k < vs.length by have := h.2.1; omega)
  exact ⟨⟨by omega, by omega⟩, ⟨by omega, by omega⟩⟩
theorem curveB_size {ls vs : List Int} (h : CurveOk ls vs) : ∀ k, k ≤ ls.length → (curveB ls vs k).size ≤ 44 * k := by
  intro k
  induction k with
  | zero => intro _; exact Nat.le_refl _
  | succ k ih =>
    intro hk
    have h1 := ih (by omega)
    obtain ⟨i0, i1⟩ := curve_i64 h (show k < ls.length by omega)
    have h2 := wordB_size _ _ i0 i1
    have h3 := spB_size k (curveB ls vs k)
    rw [curveB, ByteArray.size_append]
    omega

def r0_CurveText (xa0_0 : List Int) (xa0_1 : List Int) : ByteArray := if CurveOk xa0_0 xa0_1 then curveB xa0_0 xa0_1 xa0_0.length else ⟨#[]⟩

/-- A row of strings of which the first k have been written by the function f, the others are empty. -/
def HalfT (n b : Nat) (f : Nat → ByteArray) (k : Nat) (w : World) : Prop :=
  ∀ j, j < n → w.cell? ⟨b, j, none⟩ = some (.string (if j < k then f j else ⟨#[]⟩)) ∧ w.frozen? ⟨b, j, none⟩ = false
theorem HalfT.step {n b : Nat} {f : Nat → ByteArray} {k : Nat} {w : World} (h : HalfT n b f k w) (v : ByteArray) (hv : v = f k) : HalfT n b f (k + 1) (w.setCell ⟨b, k, none⟩ (.string v)) := by
  intro j hj
  obtain ⟨h1, h2⟩ := h j hj
  refine ⟨?_, by simpa using h2⟩
  by_cases e : j = k
  · subst e
    rw [World.cell?_setCell_same w _ _ h1, if_pos (by omega), hv]
  · rw [World.cell?_setCell_other w _ _ _ (fun h => e (by simpa using h.symm)), h1]
    by_cases h3 : j < k
    · rw [if_pos h3, if_pos (by omega)]
    · rw [if_neg h3, if_neg (by omega)]
theorem HalfT.below {n b : Nat} {f : Nat → ByteArray} {k : Nat} {w w' : World} (h : HalfT n b f k w) (hb : Below w.heap.size w w') (hB : b < w.heap.size) : HalfT n b f k w' := fun j hj =>
  ⟨(hb.cell (p := ⟨b, j, none⟩) hB).trans (h j hj).1, (hb.frozen (p := ⟨b, j, none⟩) hB).trans (h j hj).2⟩
theorem HalfT.new (w : World) (n : Nat) (f : Nat → ByteArray) (E : TypeId) (vc : Array Value) (hv : vc.toList = [.string ⟨#[]⟩]) (m : Nat) (hm : m = n) : HalfT n w.heap.size f 0 (w.alloc (.cells (madeCells vc m) E)) := by
  have h := HalfR.new (enc := fun s : ByteArray => [.string s]) (s := 1) (fun _ => rfl) w n f ⟨#[]⟩ E vc hv m (by omega) (by decide)
  intro j hj
  have := h j hj 0 (by omega)
  simpa using this
theorem words_at {ls vs : List Int} {n j : Nat} {x : ByteArray} (h : (wordsB ls vs n)[j]? = some x) : j < n ∧ x = wordB (ls.getD j 0) (vs.getD j 0) := by
  have hj : j < n := by
    have := (List.getElem?_eq_some_iff.1 h).1
    rwa [wordsB_len] at this
  refine ⟨hj, ?_⟩
  rw [wordsB, List.getElem?_map, List.getElem?_range hj] at h
  exact (Option.some.inj h).symm
theorem join_t (n b : Nat) (ls vs : List Int) (w : World) (h0 : 0 < n) (hn : n ≤ ls.length) (hok : CurveOk ls vs) (h : HalfT n b (fun j => wordB (ls.getD j 0) (vs.getD j 0)) n w) (hb : b < w.heap.size) :
    Calls Tryd.prog 21 #[.slice (some ⟨b, 0, none⟩) n n, .string ⟨#[32]⟩] w fun e w' => e = .returned (.string (curveB ls vs n)) ∧ Below w.heap.size w w' := by
  have h12 := hok.1.2
  have hs := curveB_size hok n hn
  have hj : Lib.join ((wordsB ls vs n).map (·.data.toList)) (⟨#[32]⟩ : ByteArray).data.toList = (curveB ls vs n).data.toList := curve_join ls vs n h0
  have := Tryd.strings_Join b 0 n (wordsB ls vs n) ⟨#[32]⟩ w (fun j x hx => by
    obtain ⟨h1, h2⟩ := words_at hx
    rw [Nat.zero_add, (h j h1).1, if_pos h1, h2]) hb (by rw [wordsB_len]; omega) (by rw [wordsB_len]; exact Nat.le_refl _) (by
    rw [hj]
    show (curveB ls vs n).size ≤ _
    omega)
  rw [wordsB_len, hj, mk_toList] at this
  exact this
theorem info_str : (Tryd.prog.info? 9).map (fun i => (i.zero, i.size, i.bytes)) = some (some (.string ⟨#[]⟩), 1, 16) := by kernel_rfl

theorem below_from_drew {w w' : World} (h : Below w.drew.heap.size w.drew w') : Below w.heap.size w w' := ⟨h.os, h.tape, h.output, h.size, h.block⟩
theorem dec_specT (n : Int) (t : ByteArray) (w : World) (hn : I64 n) (e : t = dB n) :
    Calls Tryd.prog 33 #[.int .i64 n] w fun e w' => e = .returned (.string t) ∧ Below w.heap.size w w' := by
  subst e
  exact dec_specB n w hn

set_option maxRecDepth 100000 in
set_option maxHeartbeats 1600000 in
theorem l05Text_t (b : Nat) (A0 : Option Addr) (n0 k0 : Nat) (ls : List Int) (A1 : Option Addr) (n1 k1 : Nat) (vs : List Int) (w : World) (hb0 : b < w.heap.size) (hat : CurveAt w b A0 n0 k0 A1 n1 k1) (ha : Rd w w.heap.size A0 n0 ls) (hv : Rd w w.heap.size A1 n1 vs) (hok : CurveOk ls vs) :
    Calls Tryd.prog 17 #[.pointer (some ⟨b, 0, none⟩)] w fun e w' => e = .returned (.string (curveB ls vs n0)) ∧ Below w.heap.size w w' := by
  have hl0 := ha.1
  have hl1 := hv.1
  have hl2 := hok.2.1
  have h12 := hok.1.2
  have HC := Lib.hid hok
  have HA := Lib.hid hat
  obtain ⟨bl, ol, rfl, hbl, hcl⟩ := ha.2 (by have := hok.1.1; omega)
  obtain ⟨bv, ov, rfl, hbv, hcv⟩ := hv.2 (by have := hok.1.1; omega)
  have HL := Lib.hid hcl
  have HV := Lib.hid hcv
  obtain ⟨c0, c1⟩ := hat
  clear hok hcl hcv ha hv
  go_enter Tryd.func17, Tryd.ntmps17
  go_wp2
  go_loopw [3, 4] (fun v i wr => ∃ k : Nat, k ≤ n0 ∧ i = .int .i64 (k : Int) ∧ v = .string (curveB ls vs k) ∧ Below w.heap.size w wr) (fun _ i _ => n0 - (intOf i).toNat)
  case atStart => exact ⟨0, by omega, rfl, rfl, Below.refl _ _⟩
  case round =>
    obtain ⟨k, hk, rfl, rfl, hb⟩ := hrel
    clear c0 c1
    obtain ⟨c0, c1⟩ := HA.out.below hb hb0
    have hsz := hb.size
    have hb2 : b < wr.heap.size := by omega
    by_cases hlt : k < n0
    · have hb3 : bl < wr.heap.size := by omega
      have hb4 : bv < wr.heap.size := by omega
      obtain ⟨i0, i1⟩ := curve_i64 HC.out (show k < ls.length by omega)
      have q0 := (hb.cell (p := ⟨bl, ol + k, none⟩) hbl).trans (HL.out k hlt)
      have q1 := (hb.cell (p := ⟨bv, ov + k, none⟩) hbv).trans (HV.out k (by omega))
      have hzo := curveB_size HC.out k (by omega)
      have HN := Lib.hid (show curveB ls vs (k + 1) = spB k (curveB ls vs k) ++ wordB (ls.getD k 0) (vs.getD k 0) from rfl)
      generalize ls.getD k 0 = y0 at i0 q0 HN
      generalize vs.getD k 0 = y1 at i1 q1 HN
      have z0 := dB_size y0 i0
      have z1 := dB_size y1 i1
      obtain ⟨t0, E0⟩ : ∃ t0, Hid (t0 = dB y0) := ⟨_, rfl⟩
      obtain ⟨t1, E1⟩ : ∃ t1, Hid (t1 = dB y1) := ⟨_, rfl⟩
      have HW := Lib.hid (show wordB y0 y1 = t0 ++ ⟨#[58]⟩ ++ t1 by rw [E0.out, E1.out]; rfl)
      rw [← E0.out] at z0
      rw [← E1.out] at z1
      generalize curveB ls vs k = o at HN hzo ⊢
      have g1 : (k : Int) < (n0 : Int) := by omega
      have g2 : (k : Int) < (n1 : Int) := by omega
      have g0 : (0 : Int) ≤ (k : Int) := by omega
      by_cases hp : 0 < k
      · have HS := Lib.hid (show spB k o = o ++ ⟨#[32]⟩ from if_pos hp)
        have hzo' : (o ++ ⟨#[32]⟩ : ByteArray).size ≤ 2000 := by
          have e : (⟨#[32]⟩ : ByteArray).size = 1 := rfl
          rw [ByteArray.size_append, e]
          omega
        have hzo2 : o.size ≤ 2000 := by omega
        go_wp2_with fail
        refine wp_region_held_drew (S := fun w' => w'.cell? ⟨b, 0, none⟩ = some (.slice (some ⟨bl, ol, none⟩) n0 k0) ∧ w'.cell? ⟨b, 1, none⟩ = some (.slice (some ⟨bv, ov, none⟩) n1 k1) ∧ w'.cell? ⟨bl, ol + k, none⟩ = some (.int .i64 y0) ∧ w'.cell? ⟨bv, ov + k, none⟩ = some (.int .i64 y1)) (by kernel_rfl) ⟨c0, c1, q0, q1⟩ (fun hHeld => ?_)
        ((refine wpAnyH_take (i := 0) (oi := ⟨some 18, _, _, _, _, _⟩) (v := ?_) rfl (by kernel_rfl) (by kernel_rfl) (by kernel_rfl) (fun _ _ _ h => h) (Or.inl ⟨by rfl, ?_⟩) (by assumption) ?_; rotate_left 1; (focus (intro w hSw; (try dsimp only at hSw); go_simp <;> try (first | (with_reducible rfl) | (rw [if_neg (by omega)])))); try simp only [Act.put, List.setIfInBounds_toArray, List.set_cons_zero, List.set_cons_succ]); (refine wpAnyH_take (i := 1) (oi := ⟨some 19, _, _, _, _, _⟩) (v := ?_) rfl (by kernel_rfl) (by kernel_rfl) (by kernel_rfl) (fun _ _ _ h => h) (Or.inl ⟨by rfl, ?_⟩) (by assumption) ?_; rotate_left 1; (focus (intro w hSw; (try dsimp only at hSw); go_simp <;> try (first | (with_reducible rfl) | (rw [if_neg (by omega)])))); try simp only [Act.put, List.setIfInBounds_toArray, List.set_cons_zero, List.set_cons_succ]); (refine wpAnyH_take (i := 2) (oi := ⟨some 20, _, _, _, _, _⟩) (v := ?_) rfl (by kernel_rfl) (by kernel_rfl) (by kernel_rfl) (fun _ _ _ h => h) (Or.inl ⟨by rfl, ?_⟩) (by assumption) ?_; rotate_left 1; (focus (intro w hSw; (try dsimp only at hSw); go_simp <;> try (first | (with_reducible rfl) | (rw [if_neg (by omega)])))); try simp only [Act.put, List.setIfInBounds_toArray, List.set_cons_zero, List.set_cons_succ]); (refine wpAnyH_take (i := 3) (oi := ⟨some 21, _, _, _, _, _⟩) (v := ?_) rfl (by kernel_rfl) (by kernel_rfl) (by kernel_rfl) (fun _ _ _ h => h) (Or.inl ⟨by rfl, ?_⟩) (by assumption) ?_; rotate_left 1; (focus (intro w hSw; (try dsimp only at hSw); go_simp <;> try (first | (with_reducible rfl) | (rw [if_neg (by omega)])))); try simp only [Act.put, List.setIfInBounds_toArray, List.set_cons_zero, List.set_cons_succ]); (refine wpAnyH_take (i := 4) (oi := ⟨some 22, _, _, _, _, _⟩) (v := ?_) rfl (by kernel_rfl) (by kernel_rfl) (by kernel_rfl) (fun _ _ _ h => h) (Or.inl ⟨by rfl, ?_⟩) (by assumption) ?_; rotate_left 1; (focus (intro w hSw; (try dsimp only at hSw); go_simp <;> try (first | (with_reducible rfl) | (rw [if_neg (by omega)])))); try simp only [Act.put, List.setIfInBounds_toArray, List.set_cons_zero, List.set_cons_succ]); (refine wpAnyH_take (i := 5) (oi := ⟨some 23, _, _, _, _, _⟩) (v := ?_) rfl (by kernel_rfl) (by kernel_rfl) (by kernel_rfl) (fun _ _ _ h => h) (Or.inl ⟨by rfl, ?_⟩) (by assumption) ?_; rotate_left 1; (focus (intro w hSw; (try dsimp only at hSw); go_simp <;> try (first | (with_reducible rfl) | (rw [if_neg (by omega)])))); try simp only [Act.put, List.setIfInBounds_toArray, List.set_cons_zero, List.set_cons_succ]); (refine wpAnyH_take (i := 6) (oi := ⟨some 24, _, _, _, _, _⟩) (v := ?_) rfl (by kernel_rfl) (by kernel_rfl) (by kernel_rfl) (fun _ _ _ h => h) (Or.inl ⟨by rfl, ?_⟩) (by assumption) ?_; rotate_left 1; (focus (intro w hSw; (try dsimp only at hSw); go_simp <;> try (first | (with_reducible rfl) | (rw [if_neg (by omega)])))); try simp only [Act.put, List.setIfInBounds_toArray, List.set_cons_zero, List.set_cons_succ]); (refine wpAnyH_take (i := 7) (oi := ⟨some 25, _, _, _, _, _⟩) (v := ?_) rfl (by kernel_rfl) (by kernel_rfl) (by kernel_rfl) (fun _ _ _ h => h) (Or.inl ⟨by rfl, ?_⟩) (by assumption) ?_; rotate_left 1; (focus (intro w hSw; (try dsimp only at hSw); go_simp <;> try (first | (with_reducible rfl) | (rw [if_neg (by omega)])))); try simp only [Act.put, List.setIfInBounds_toArray, List.set_cons_zero, List.set_cons_succ]); (refine wpAnyH_take (i := 10) (oi := ⟨some 28, _, _, _, _, _⟩) (v := ?_) rfl (by kernel_rfl) (by kernel_rfl) (by kernel_rfl) (fun _ _ _ h => h) (Or.inl ⟨by rfl, ?_⟩) (by assumption) ?_; rotate_left 1; (focus (intro w hSw; (try dsimp only at hSw); go_simp <;> try (first | (with_reducible rfl) | (rw [if_neg (by omega)])))); try simp only [Act.put, List.setIfInBounds_toArray, List.set_cons_zero, List.set_cons_succ]); (refine wpAnyH_take (i := 11) (oi := ⟨some 29, _, _, _, _, _⟩) (v := ?_) rfl (by kernel_rfl) (by kernel_rfl) (by kernel_rfl) (fun _ _ _ h => h) (Or.inl ⟨by rfl, ?_⟩) (by assumption) ?_; rotate_left 1; (focus (intro w hSw; (try dsimp only at hSw); go_simp <;> try (first | (with_reducible rfl) | (rw [if_neg (by omega)])))); try simp only [Act.put, List.setIfInBounds_toArray, List.set_cons_zero, List.set_cons_succ]); (refine wpAnyH_take (i := 12) (oi := ⟨some 30, _, _, _, _, _⟩) (v := ?_) rfl (by kernel_rfl) (by kernel_rfl) (by kernel_rfl) (fun _ _ _ h => h) (Or.inl ⟨by rfl, ?_⟩) (by assumption) ?_; rotate_left 1; (focus (intro w hSw; (try dsimp only at hSw); go_simp <;> try (first | (with_reducible rfl) | (rw [if_neg (by omega)])))); try simp only [Act.put, List.setIfInBounds_toArray, List.set_cons_zero, List.set_cons_succ]); (refine wpAnyH_take (i := 13) (oi := ⟨some 31, _, _, _, _, _⟩) (v := ?_) rfl (by kernel_rfl) (by kernel_rfl) (by kernel_rfl) (fun _ _ _ h => h) (Or.inl ⟨by rfl, ?_⟩) (by assumption) ?_; rotate_left 1; (focus (intro w hSw; (try dsimp only at hSw); go_simp <;> try (first | (with_reducible rfl) | (rw [if_neg (by omega)])))); try simp only [Act.put, List.setIfInBounds_toArray, List.set_cons_zero, List.set_cons_succ]); (refine wpAnyH_take (i := 14) (oi := ⟨some 32, _, _, _, _, _⟩) (v := ?_) rfl (by kernel_rfl) (by kernel_rfl) (by kernel_rfl) (fun _ _ _ h => h) (Or.inl ⟨by rfl, ?_⟩) (by assumption) ?_; rotate_left 1; (focus (intro w hSw; (try dsimp only at hSw); go_simp <;> try (first | (with_reducible rfl) | (rw [if_neg (by omega)])))); try simp only [Act.put, List.setIfInBounds_toArray, List.set_cons_zero, List.set_cons_succ]); (refine wpAnyH_take (i := 15) (oi := ⟨some 33, _, _, _, _, _⟩) (v := ?_) rfl (by kernel_rfl) (by kernel_rfl) (by kernel_rfl) (fun _ _ _ h => h) (Or.inl ⟨by rfl, ?_⟩) (by assumption) ?_; rotate_left 1; (focus (intro w hSw; (try dsimp only at hSw); go_simp <;> try (first | (with_reducible rfl) | (rw [if_neg (by omega)])))); try simp only [Act.put, List.setIfInBounds_toArray, List.set_cons_zero, List.set_cons_succ]); (refine wpAnyH_take (i := 16) (oi := ⟨some 34, _, _, _, _, _⟩) (v := ?_) rfl (by kernel_rfl) (by kernel_rfl) (by kernel_rfl) (fun _ _ _ h => h) (Or.inl ⟨by rfl, ?_⟩) (by assumption) ?_; rotate_left 1; (focus (intro w hSw; (try dsimp only at hSw); go_simp <;> try (first | (with_reducible rfl) | (rw [if_neg (by omega)])))); try simp only [Act.put, List.setIfInBounds_toArray, List.set_cons_zero, List.set_cons_succ]))
        (refine wpAnyH_ready (rs := [8]) (by kernel_rfl) (by simp) ?_; refine AllReadyH.cons rfl (fun K hK => ?_) AllReadyH.nil; go_simp)
        refine (dec_specT y0 t0 _ i0 E0.out).mono ?_
        rintro e1 W1 ⟨rfl, b1⟩
        have s1 : wr.heap.size ≤ W1.heap.size := by have h := b1.size; have h2 : wr.heap.size ≤ wr.drew.heap.size := Nat.le_refl _; omega
        have z1_0 := (b1.cell (p := ⟨b, 0, none⟩) (show b < _ from Nat.lt_of_lt_of_le (show b < wr.heap.size by omega) (Nat.le_refl _))).trans hHeld.1
        have z1_1 := (b1.cell (p := ⟨b, 1, none⟩) (show b < _ from Nat.lt_of_lt_of_le (show b < wr.heap.size by omega) (Nat.le_refl _))).trans hHeld.2.1
        have z1_2 := (b1.cell (p := ⟨bl, ol + k, none⟩) (show bl < _ from Nat.lt_of_lt_of_le (show bl < wr.heap.size by omega) (Nat.le_refl _))).trans hHeld.2.2.1
        have z1_3 := (b1.cell (p := ⟨bv, ov + k, none⟩) (show bv < _ from Nat.lt_of_lt_of_le (show bv < wr.heap.size by omega) (Nat.le_refl _))).trans hHeld.2.2.2
        have d1 : Below w.heap.size w W1 := hb.trans ((below_from_drew b1).mono (by omega))
        clear hHeld
        (refine hK.out _ _ ?_ (fun hHeld => ?_))
        · exact ⟨z1_0, z1_1, z1_2, z1_3⟩
        ((refine wpAnyH_take (i := 9) (oi := ⟨some 27, _, _, _, _, _⟩) (v := ?_) rfl (by kernel_rfl) (by kernel_rfl) (by kernel_rfl) (fun _ _ _ h => h) (Or.inl ⟨by rfl, ?_⟩) (by assumption) ?_; rotate_left 1; (focus (intro w hSw; (try dsimp only at hSw); go_simp <;> try (first | (with_reducible rfl) | (rw [if_neg (by omega)])))); try simp only [Act.put, List.setIfInBounds_toArray, List.set_cons_zero, List.set_cons_succ]))
        (refine wpAnyH_ready (rs := [17]) (by kernel_rfl) (by simp) ?_; refine AllReadyH.cons rfl (fun K hK => ?_) AllReadyH.nil; go_simp)
        refine (dec_specT y1 t1 _ i1 E1.out).mono ?_
        rintro e2 W2 ⟨rfl, b2⟩
        have s2 : wr.heap.size ≤ W2.heap.size := by have h := b2.size; omega
        have z2_0 := (b2.cell (p := ⟨b, 0, none⟩) (show b < _ from Nat.lt_of_lt_of_le (show b < wr.heap.size by omega) s1)).trans hHeld.1
        have z2_1 := (b2.cell (p := ⟨b, 1, none⟩) (show b < _ from Nat.lt_of_lt_of_le (show b < wr.heap.size by omega) s1)).trans hHeld.2.1
        have z2_2 := (b2.cell (p := ⟨bl, ol + k, none⟩) (show bl < _ from Nat.lt_of_lt_of_le (show bl < wr.heap.size by omega) s1)).trans hHeld.2.2.1
        have z2_3 := (b2.cell (p := ⟨bv, ov + k, none⟩) (show bv < _ from Nat.lt_of_lt_of_le (show bv < wr.heap.size by omega) s1)).trans hHeld.2.2.2
        have d2 : Below w.heap.size w W2 := d1.trans (b2.mono (by omega))
        clear hHeld
        (refine hK.out _ _ ?_ (fun hHeld => ?_))
        · exact ⟨z2_0, z2_1, z2_2, z2_3⟩
        ((refine wpAnyH_take (i := 18) (oi := ⟨some 36, _, _, _, _, _⟩) (v := ?_) rfl (by kernel_rfl) (by kernel_rfl) (by kernel_rfl) (fun _ _ _ h => h) (Or.inl ⟨by rfl, ?_⟩) (by assumption) ?_; rotate_left 1; (focus (intro w hSw; (try dsimp only at hSw); go_simp <;> try (first | (with_reducible rfl) | (rw [if_neg (by omega)])))); try simp only [Act.put, List.setIfInBounds_toArray, List.set_cons_zero, List.set_cons_succ]); (refine wpAnyH_take (i := 19) (oi := ⟨some 37, _, _, _, _, _⟩) (v := ?_) rfl (by kernel_rfl) (by kernel_rfl) (by kernel_rfl) (fun _ _ _ h => h) (Or.inl ⟨by rfl, ?_⟩) (by assumption) ?_; rotate_left 1; (focus (intro w hSw; (try dsimp only at hSw); go_simp <;> try (first | (with_reducible rfl) | (rw [if_neg (by omega)])))); try simp only [Act.put, List.setIfInBounds_toArray, List.set_cons_zero, List.set_cons_succ]); (refine wpAnyH_take (i := 20) (oi := ⟨some 3, _, _, _, _, _⟩) (v := ?_) rfl (by kernel_rfl) (by kernel_rfl) (by kernel_rfl) (fun _ _ _ h => h) (Or.inl ⟨by rfl, ?_⟩) (by assumption) ?_; rotate_left 1; (focus (intro w hSw; (try dsimp only at hSw); go_simp <;> try (first | (with_reducible rfl) | (rw [if_neg (by omega)])))); try simp only [Act.put, List.setIfInBounds_toArray, List.set_cons_zero, List.set_cons_succ]))
        refine wpAnyH_done (by kernel_rfl) ?_ _
        go_wp2
        go_roundw
        case rel => exact ⟨k + 1, by omega, by go_num, by rw [HN.out, HS.out, HW.out], d2⟩
        case measure => simp [intOf]; omega
      · have HS := Lib.hid (show spB k o = o from if_neg hp)
        have hzo2 : o.size ≤ 2000 := by omega
        go_wp2_with fail
        refine wp_region_held_drew (S := fun w' => w'.cell? ⟨b, 0, none⟩ = some (.slice (some ⟨bl, ol, none⟩) n0 k0) ∧ w'.cell? ⟨b, 1, none⟩ = some (.slice (some ⟨bv, ov, none⟩) n1 k1) ∧ w'.cell? ⟨bl, ol + k, none⟩ = some (.int .i64 y0) ∧ w'.cell? ⟨bv, ov + k, none⟩ = some (.int .i64 y1)) (by kernel_rfl) ⟨c0, c1, q0, q1⟩ (fun hHeld => ?_)
        ((refine wpAnyH_take (i := 0) (oi := ⟨some 18, _, _, _, _, _⟩) (v := ?_) rfl (by kernel_rfl) (by kernel_rfl) (by kernel_rfl) (fun _ _ _ h => h) (Or.inl ⟨by rfl, ?_⟩) (by assumption) ?_; rotate_left 1; (focus (intro w hSw; (try dsimp only at hSw); go_simp <;> try (first | (with_reducible rfl) | (rw [if_neg (by omega)])))); try simp only [Act.put, List.setIfInBounds_toArray, List.set_cons_zero, List.set_cons_succ]); (refine wpAnyH_take (i := 1) (oi := ⟨some 19, _, _, _, _, _⟩) (v := ?_) rfl (by kernel_rfl) (by kernel_rfl) (by kernel_rfl) (fun _ _ _ h => h) (Or.inl ⟨by rfl, ?_⟩) (by assumption) ?_; rotate_left 1; (focus (intro w hSw; (try dsimp only at hSw); go_simp <;> try (first | (with_reducible rfl) | (rw [if_neg (by omega)])))); try simp only [Act.put, List.setIfInBounds_toArray, List.set_cons_zero, List.set_cons_succ]); (refine wpAnyH_take (i := 2) (oi := ⟨some 20, _, _, _, _, _⟩) (v := ?_) rfl (by kernel_rfl) (by kernel_rfl) (by kernel_rfl) (fun _ _ _ h => h) (Or.inl ⟨by rfl, ?_⟩) (by assumption) ?_; rotate_left 1; (focus (intro w hSw; (try dsimp only at hSw); go_simp <;> try (first | (with_reducible rfl) | (rw [if_neg (by omega)])))); try simp only [Act.put, List.setIfInBounds_toArray, List.set_cons_zero, List.set_cons_succ]); (refine wpAnyH_take (i := 3) (oi := ⟨some 21, _, _, _, _, _⟩) (v := ?_) rfl (by kernel_rfl) (by kernel_rfl) (by kernel_rfl) (fun _ _ _ h => h) (Or.inl ⟨by rfl, ?_⟩) (by assumption) ?_; rotate_left 1; (focus (intro w hSw; (try dsimp only at hSw); go_simp <;> try (first | (with_reducible rfl) | (rw [if_neg (by omega)])))); try simp only [Act.put, List.setIfInBounds_toArray, List.set_cons_zero, List.set_cons_succ]); (refine wpAnyH_take (i := 4) (oi := ⟨some 22, _, _, _, _, _⟩) (v := ?_) rfl (by kernel_rfl) (by kernel_rfl) (by kernel_rfl) (fun _ _ _ h => h) (Or.inl ⟨by rfl, ?_⟩) (by assumption) ?_; rotate_left 1; (focus (intro w hSw; (try dsimp only at hSw); go_simp <;> try (first | (with_reducible rfl) | (rw [if_neg (by omega)])))); try simp only [Act.put, List.setIfInBounds_toArray, List.set_cons_zero, List.set_cons_succ]); (refine wpAnyH_take (i := 5) (oi := ⟨some 23, _, _, _, _, _⟩) (v := ?_) rfl (by kernel_rfl) (by kernel_rfl) (by kernel_rfl) (fun _ _ _ h => h) (Or.inl ⟨by rfl, ?_⟩) (by assumption) ?_; rotate_left 1; (focus (intro w hSw; (try dsimp only at hSw); go_simp <;> try (first | (with_reducible rfl) | (rw [if_neg (by omega)])))); try simp only [Act.put, List.setIfInBounds_toArray, List.set_cons_zero, List.set_cons_succ]); (refine wpAnyH_take (i := 6) (oi := ⟨some 24, _, _, _, _, _⟩) (v := ?_) rfl (by kernel_rfl) (by kernel_rfl) (by kernel_rfl) (fun _ _ _ h => h) (Or.inl ⟨by rfl, ?_⟩) (by assumption) ?_; rotate_left 1; (focus (intro w hSw; (try dsimp only at hSw); go_simp <;> try (first | (with_reducible rfl) | (rw [if_neg (by omega)])))); try simp only [Act.put, List.setIfInBounds_toArray, List.set_cons_zero, List.set_cons_succ]); (refine wpAnyH_take (i := 7) (oi := ⟨some 25, _, _, _, _, _⟩) (v := ?_) rfl (by kernel_rfl) (by kernel_rfl) (by kernel_rfl) (fun _ _ _ h => h) (Or.inl ⟨by rfl, ?_⟩) (by assumption) ?_; rotate_left 1; (focus (intro w hSw; (try dsimp only at hSw); go_simp <;> try (first | (with_reducible rfl) | (rw [if_neg (by omega)])))); try simp only [Act.put, List.setIfInBounds_toArray, List.set_cons_zero, List.set_cons_succ]); (refine wpAnyH_take (i := 10) (oi := ⟨some 28, _, _, _, _, _⟩) (v := ?_) rfl (by kernel_rfl) (by kernel_rfl) (by kernel_rfl) (fun _ _ _ h => h) (Or.inl ⟨by rfl, ?_⟩) (by assumption) ?_; rotate_left 1; (focus (intro w hSw; (try dsimp only at hSw); go_simp <;> try (first | (with_reducible rfl) | (rw [if_neg (by omega)])))); try simp only [Act.put, List.setIfInBounds_toArray, List.set_cons_zero, List.set_cons_succ]); (refine wpAnyH_take (i := 11) (oi := ⟨some 29, _, _, _, _, _⟩) (v := ?_) rfl (by kernel_rfl) (by kernel_rfl) (by kernel_rfl) (fun _ _ _ h => h) (Or.inl ⟨by rfl, ?_⟩) (by assumption) ?_; rotate_left 1; (focus (intro w hSw; (try dsimp only at hSw); go_simp <;> try (first | (with_reducible rfl) | (rw [if_neg (by omega)])))); try simp only [Act.put, List.setIfInBounds_toArray, List.set_cons_zero, List.set_cons_succ]); (refine wpAnyH_take (i := 12) (oi := ⟨some 30, _, _, _, _, _⟩) (v := ?_) rfl (by kernel_rfl) (by kernel_rfl) (by kernel_rfl) (fun _ _ _ h => h) (Or.inl ⟨by rfl, ?_⟩) (by assumption) ?_; rotate_left 1; (focus (intro w hSw; (try dsimp only at hSw); go_simp <;> try (first | (with_reducible rfl) | (rw [if_neg (by omega)])))); try simp only [Act.put, List.setIfInBounds_toArray, List.set_cons_zero, List.set_cons_succ]); (refine wpAnyH_take (i := 13) (oi := ⟨some 31, _, _, _, _, _⟩) (v := ?_) rfl (by kernel_rfl) (by kernel_rfl) (by kernel_rfl) (fun _ _ _ h => h) (Or.inl ⟨by rfl, ?_⟩) (by assumption) ?_; rotate_left 1; (focus (intro w hSw; (try dsimp only at hSw); go_simp <;> try (first | (with_reducible rfl) | (rw [if_neg (by omega)])))); try simp only [Act.put, List.setIfInBounds_toArray, List.set_cons_zero, List.set_cons_succ]); (refine wpAnyH_take (i := 14) (oi := ⟨some 32, _, _, _, _, _⟩) (v := ?_) rfl (by kernel_rfl) (by kernel_rfl) (by kernel_rfl) (fun _ _ _ h => h) (Or.inl ⟨by rfl, ?_⟩) (by assumption) ?_; rotate_left 1; (focus (intro w hSw; (try dsimp only at hSw); go_simp <;> try (first | (with_reducible rfl) | (rw [if_neg (by omega)])))); try simp only [Act.put, List.setIfInBounds_toArray, List.set_cons_zero, List.set_cons_succ]); (refine wpAnyH_take (i := 15) (oi := ⟨some 33, _, _, _, _, _⟩) (v := ?_) rfl (by kernel_rfl) (by kernel_rfl) (by kernel_rfl) (fun _ _ _ h => h) (Or.inl ⟨by rfl, ?_⟩) (by assumption) ?_; rotate_left 1; (focus (intro w hSw; (try dsimp only at hSw); go_simp <;> try (first | (with_reducible rfl) | (rw [if_neg (by omega)])))); try simp only [Act.put, List.setIfInBounds_toArray, List.set_cons_zero, List.set_cons_succ]); (refine wpAnyH_take (i := 16) (oi := ⟨some 34, _, _, _, _, _⟩) (v := ?_) rfl (by kernel_rfl) (by kernel_rfl) (by kernel_rfl) (fun _ _ _ h => h) (Or.inl ⟨by rfl, ?_⟩) (by assumption) ?_; rotate_left 1; (focus (intro w hSw; (try dsimp only at hSw); go_simp <;> try (first | (with_reducible rfl) | (rw [if_neg (by omega)])))); try simp only [Act.put, List.setIfInBounds_toArray, List.set_cons_zero, List.set_cons_succ]))
        (refine wpAnyH_ready (rs := [8]) (by kernel_rfl) (by simp) ?_; refine AllReadyH.cons rfl (fun K hK => ?_) AllReadyH.nil; go_simp)
        refine (dec_specT y0 t0 _ i0 E0.out).mono ?_
        rintro e1 W1 ⟨rfl, b1⟩
        have s1 : wr.heap.size ≤ W1.heap.size := by have h := b1.size; have h2 : wr.heap.size ≤ wr.drew.heap.size := Nat.le_refl _; omega
        have z1_0 := (b1.cell (p := ⟨b, 0, none⟩) (show b < _ from Nat.lt_of_lt_of_le (show b < wr.heap.size by omega) (Nat.le_refl _))).trans hHeld.1
        have z1_1 := (b1.cell (p := ⟨b, 1, none⟩) (show b < _ from Nat.lt_of_lt_of_le (show b < wr.heap.size by omega) (Nat.le_refl _))).trans hHeld.2.1
        have z1_2 := (b1.cell (p := ⟨bl, ol + k, none⟩) (show bl < _ from Nat.lt_of_lt_of_le (show bl < wr.heap.size by omega) (Nat.le_refl _))).trans hHeld.2.2.1
        have z1_3 := (b1.cell (p := ⟨bv, ov + k, none⟩) (show bv < _ from Nat.lt_of_lt_of_le (show bv < wr.heap.size by omega) (Nat.le_refl _))).trans hHeld.2.2.2
        have d1 : Below w.heap.size w W1 := hb.trans ((below_from_drew b1).mono (by omega))
        clear hHeld
        (refine hK.out _ _ ?_ (fun hHeld => ?_))
        · exact ⟨z1_0, z1_1, z1_2, z1_3⟩
        ((refine wpAnyH_take (i := 9) (oi := ⟨some 27, _, _, _, _, _⟩) (v := ?_) rfl (by kernel_rfl) (by kernel_rfl) (by kernel_rfl) (fun _ _ _ h => h) (Or.inl ⟨by rfl, ?_⟩) (by assumption) ?_; rotate_left 1; (focus (intro w hSw; (try dsimp only at hSw); go_simp <;> try (first | (with_reducible rfl) | (rw [if_neg (by omega)])))); try simp only [Act.put, List.setIfInBounds_toArray, List.set_cons_zero, List.set_cons_succ]))
        (refine wpAnyH_ready (rs := [17]) (by kernel_rfl) (by simp) ?_; refine AllReadyH.cons rfl (fun K hK => ?_) AllReadyH.nil; go_simp)
        refine (dec_specT y1 t1 _ i1 E1.out).mono ?_
        rintro e2 W2 ⟨rfl, b2⟩
        have s2 : wr.heap.size ≤ W2.heap.size := by have h := b2.size; omega
        have z2_0 := (b2.cell (p := ⟨b, 0, none⟩) (show b < _ from Nat.lt_of_lt_of_le (show b < wr.heap.size by omega) s1)).trans hHeld.1
        have z2_1 := (b2.cell (p := ⟨b, 1, none⟩) (show b < _ from Nat.lt_of_lt_of_le (show b < wr.heap.size by omega) s1)).trans hHeld.2.1
        have z2_2 := (b2.cell (p := ⟨bl, ol + k, none⟩) (show bl < _ from Nat.lt_of_lt_of_le (show bl < wr.heap.size by omega) s1)).trans hHeld.2.2.1
        have z2_3 := (b2.cell (p := ⟨bv, ov + k, none⟩) (show bv < _ from Nat.lt_of_lt_of_le (show bv < wr.heap.size by omega) s1)).trans hHeld.2.2.2
        have d2 : Below w.heap.size w W2 := d1.trans (b2.mono (by omega))
        clear hHeld
        (refine hK.out _ _ ?_ (fun hHeld => ?_))
        · exact ⟨z2_0, z2_1, z2_2, z2_3⟩
        ((refine wpAnyH_take (i := 18) (oi := ⟨some 36, _, _, _, _, _⟩) (v := ?_) rfl (by kernel_rfl) (by kernel_rfl) (by kernel_rfl) (fun _ _ _ h => h) (Or.inl ⟨by rfl, ?_⟩) (by assumption) ?_; rotate_left 1; (focus (intro w hSw; (try dsimp only at hSw); go_simp <;> try (first | (with_reducible rfl) | (rw [if_neg (by omega)])))); try simp only [Act.put, List.setIfInBounds_toArray, List.set_cons_zero, List.set_cons_succ]); (refine wpAnyH_take (i := 19) (oi := ⟨some 37, _, _, _, _, _⟩) (v := ?_) rfl (by kernel_rfl) (by kernel_rfl) (by kernel_rfl) (fun _ _ _ h => h) (Or.inl ⟨by rfl, ?_⟩) (by assumption) ?_; rotate_left 1; (focus (intro w hSw; (try dsimp only at hSw); go_simp <;> try (first | (with_reducible rfl) | (rw [if_neg (by omega)])))); try simp only [Act.put, List.setIfInBounds_toArray, List.set_cons_zero, List.set_cons_succ]); (refine wpAnyH_take (i := 20) (oi := ⟨some 3, _, _, _, _, _⟩) (v := ?_) rfl (by kernel_rfl) (by kernel_rfl) (by kernel_rfl) (fun _ _ _ h => h) (Or.inl ⟨by rfl, ?_⟩) (by assumption) ?_; rotate_left 1; (focus (intro w hSw; (try dsimp only at hSw); go_simp <;> try (first | (with_reducible rfl) | (rw [if_neg (by omega)])))); try simp only [Act.put, List.setIfInBounds_toArray, List.set_cons_zero, List.set_cons_succ]))
        refine wpAnyH_done (by kernel_rfl) ?_ _
        go_wp2
        go_roundw
        case rel => exact ⟨k + 1, by omega, by go_num, by rw [HN.out, HS.out, HW.out], d2⟩
        case measure => simp [intOf]; omega
    · obtain rfl : k = n0 := by omega
      go_wp2
      go_ret
      exact ⟨rfl, hb⟩

set_option maxHeartbeats 1600000 in
theorem specC_CurveText (a0_0 : Option Addr) (la0_0 ca0_0 : Nat) (xa0_0 : List Int) (a0_1 : Option Addr) (la0_1 ca0_1 : Nat) (xa0_1 : List Int) (w : World) (ha0_0 : la0_0 ≤ 1048576) (ra0_0 : Rd w w.heap.size a0_0 la0_0 xa0_0) (fa0_0 : Wf xa0_0) (ha0_1 : la0_1 ≤ 1048576) (ra0_1 : Rd w w.heap.size a0_1 la0_1 xa0_1) (fa0_1 : Wf xa0_1) :
    Calls Tryd.prog 6 #[.agg #[.slice a0_0 la0_0 ca0_0, .slice a0_1 la0_1 ca0_1]] w fun e w' => e = .returned (.string (r0_CurveText xa0_0 xa0_1)) ∧ Below w.heap.size w w' := by
  have hl0 := ra0_0.1
  have hl1 := ra0_1.1
  have RA := Lib.hid ra0_0
  have RV := Lib.hid ra0_1
  by_cases hv : CurveOk xa0_0 xa0_1
  · have HC := Lib.hid hv
    have HE := Lib.hid (show r0_CurveText xa0_0 xa0_1 = curveB xa0_0 xa0_1 la0_0 by rw [← hl0]; exact if_pos hv)
    rw [HE.out]
    clear hv ra0_0 ra0_1
    go_enter Tryd.func6, Tryd.ntmps6
    go_wp2_with (go_at_call 16; refine (l05Ok_any _ a0_0 la0_0 ca0_0 xa0_0 a0_1 la0_1 ca0_1 xa0_1 _ (by first | omega | (simp; done) | (simp; omega)) ha0_0 ha0_1 ⟨by go_simp, by go_simp⟩ ((RA.out.below (by repeat (first | assumption | exact Below.refl _ _ | (refine Below.setCell ?_ (by first | omega | (simp; done) | (simp; omega)) _) | apply below_drewN | apply Below.drew | (refine Below.alloc ?_ (by first | omega | (simp; done) | (simp; omega)) _)))).mono (by first | omega | (simp; done) | (simp; omega))) ((RV.out.below (by repeat (first | assumption | exact Below.refl _ _ | (refine Below.setCell ?_ (by first | omega | (simp; done) | (simp; omega)) _) | apply below_drewN | apply Below.drew | (refine Below.alloc ?_ (by first | omega | (simp; done) | (simp; omega)) _)))).mono (by first | omega | (simp; done) | (simp; omega))) true (by simp [HC.out])).mono ?_; rintro e w1 ⟨rfl, b1⟩; have s1 : w.heap.size < w1.heap.size := (by have := b1.size; simp at this; omega); obtain ⟨k1, f1⟩ := bcell b1; have z0 : w1.cell? ⟨w.heap.size, 0, none⟩ = some (.slice a0_0 la0_0 ca0_0) := (by rw [k1 _ _ (by first | omega | (simp; done) | (simp; omega))]; first | (simp; done) | go_simp); have zf0 : w1.frozen? ⟨w.heap.size, 0, none⟩ = false := (by rw [f1 _ _ (by first | omega | (simp; done) | (simp; omega))]; first | (simp; done) | go_simp); have z1 : w1.cell? ⟨w.heap.size, 1, none⟩ = some (.slice a0_1 la0_1 ca0_1) := (by rw [k1 _ _ (by first | omega | (simp; done) | (simp; omega))]; first | (simp; done) | go_simp); have zf1 : w1.frozen? ⟨w.heap.size, 1, none⟩ = false := (by rw [f1 _ _ (by first | omega | (simp; done) | (simp; omega))]; first | (simp; done) | go_simp); clear k1 f1; have d1 : Below w.heap.size w w1 := (by repeat (first | assumption | exact Below.refl _ _ | (refine Below.trans ?_ (b1.mono (by first | omega | (simp; done) | (simp; omega)))) | (refine Below.setCell ?_ (by first | omega | (simp; done) | (simp; omega)) _) | apply below_drewN | apply Below.drew | (refine Below.alloc ?_ (by first | omega | (simp; done) | (simp; omega)) _))))
    go_wp2_with (go_at_call 17; refine (l05Text_t _ a0_0 la0_0 ca0_0 xa0_0 a0_1 la0_1 ca0_1 xa0_1 _ s1 ⟨z0, z1⟩ ((RA.out.below d1).mono (by omega)) ((RV.out.below d1).mono (by omega)) HC.out).mono ?_; rintro e w2 ⟨rfl, b2⟩)
    go_ret
    exact ⟨rfl, d1.trans (b2.mono (by omega))⟩
  · have HC := Lib.hid hv
    have HE := Lib.hid (show r0_CurveText xa0_0 xa0_1 = ⟨#[]⟩ from if_neg hv)
    rw [HE.out]
    clear hv hl0 hl1 ra0_0 ra0_1
    go_enter Tryd.func6, Tryd.ntmps6
    go_wp2_with (go_at_call 16; refine (l05Ok_any _ a0_0 la0_0 ca0_0 xa0_0 a0_1 la0_1 ca0_1 xa0_1 _ (by first | omega | (simp; done) | (simp; omega)) ha0_0 ha0_1 ⟨by go_simp, by go_simp⟩ ((RA.out.below (by repeat (first | assumption | exact Below.refl _ _ | (refine Below.setCell ?_ (by first | omega | (simp; done) | (simp; omega)) _) | apply below_drewN | apply Below.drew | (refine Below.alloc ?_ (by first | omega | (simp; done) | (simp; omega)) _)))).mono (by first | omega | (simp; done) | (simp; omega))) ((RV.out.below (by repeat (first | assumption | exact Below.refl _ _ | (refine Below.setCell ?_ (by first | omega | (simp; done) | (simp; omega)) _) | apply below_drewN | apply Below.drew | (refine Below.alloc ?_ (by first | omega | (simp; done) | (simp; omega)) _)))).mono (by first | omega | (simp; done) | (simp; omega))) false (by simp [HC.out])).mono ?_; rintro e w1 ⟨rfl, b1⟩; have s1 : w.heap.size < w1.heap.size := (by have := b1.size; simp at this; omega); obtain ⟨k1, f1⟩ := bcell b1; have z0 : w1.cell? ⟨w.heap.size, 0, none⟩ = some (.slice a0_0 la0_0 ca0_0) := (by rw [k1 _ _ (by first | omega | (simp; done) | (simp; omega))]; first | (simp; done) | go_simp); have zf0 : w1.frozen? ⟨w.heap.size, 0, none⟩ = false := (by rw [f1 _ _ (by first | omega | (simp; done) | (simp; omega))]; first | (simp; done) | go_simp); have z1 : w1.cell? ⟨w.heap.size, 1, none⟩ = some (.slice a0_1 la0_1 ca0_1) := (by rw [k1 _ _ (by first | omega | (simp; done) | (simp; omega))]; first | (simp; done) | go_simp); have zf1 : w1.frozen? ⟨w.heap.size, 1, none⟩ = false := (by rw [f1 _ _ (by first | omega | (simp; done) | (simp; omega))]; first | (simp; done) | go_simp); clear k1 f1; have d1 : Below w.heap.size w w1 := (by repeat (first | assumption | exact Below.refl _ _ | (refine Below.trans ?_ (b1.mono (by first | omega | (simp; done) | (simp; omega)))) | (refine Below.setCell ?_ (by first | omega | (simp; done) | (simp; omega)) _) | apply below_drewN | apply Below.drew | (refine Below.alloc ?_ (by first | omega | (simp; done) | (simp; omega)) _))))
    go_ret
    exact ⟨rfl, d1⟩

set_option maxRecDepth 100000 in
set_option maxHeartbeats 3200000 in
theorem implC_CurveText (a0_0 : Option Addr) (la0_0 ca0_0 : Nat) (xa0_0 : List Int) (a0_1 : Option Addr) (la0_1 ca0_1 : Nat) (xa0_1 : List Int) (w : World) (ha0_0 : la0_0 ≤ 1048576) (ra0_0 : Rd w w.heap.size a0_0 la0_0 xa0_0) (fa0_0 : Wf xa0_0) (ha0_1 : la0_1 ≤ 1048576) (ra0_1 : Rd w w.heap.size a0_1 la0_1 xa0_1) (fa0_1 : Wf xa0_1) (hpow : PowTab w) :
    Calls Tryd.prog 8 #[.agg #[.slice a0_0 la0_0 ca0_0, .slice a0_1 la0_1 ca0_1]] w fun e w' => e = .returned (.string (r0_CurveText xa0_0 xa0_1)) ∧ Below w.heap.size w w' := by
  have HT := Lib.hid hpow
  have hl0 := ra0_0.1
  have hl1 := ra0_1.1
  have RA := Lib.hid ra0_0
  have RV := Lib.hid ra0_1
  by_cases hv : CurveOk xa0_0 xa0_1
  · have HC := Lib.hid hv
    have HE := Lib.hid (show r0_CurveText xa0_0 xa0_1 = curveB xa0_0 xa0_1 la0_0 by rw [← hl0]; exact if_pos hv)
    rw [HE.out]
    have hl2 := hv.2.1
    have h12 := hv.1.2
    have h2 := hv.1.1
    obtain ⟨bl, ol, rfl, hbl, hcl⟩ := ra0_0.2 (by omega)
    obtain ⟨bv, ov, rfl, hbv, hcv⟩ := ra0_1.2 (by omega)
    have HL := Lib.hid hcl
    have HV := Lib.hid hcv
    obtain ⟨j0, hi, hz0, hz1, hz2⟩ := info_parts info_str
    have hmk := fun W => run_make_rowN (P := Tryd.prog) 48 9 j0 (.string ⟨#[]⟩) Tryd.underlying48 hi hz0 .i64 .i64 la0_0 la0_0 (Nat.le_refl _) (by rw [hz2]; omega) (by omega) W
    rw [hz1] at hmk
    clear hi hz0 hz1 hz2 hv ra0_0 ra0_1 hpow hcl hcv
    go_enter Tryd.func8, Tryd.ntmps8
    go_wp2_with (go_at_call 19; refine (impl_vcurve (some ⟨bl, ol, none⟩) la0_0 ca0_0 xa0_0 (some ⟨bv, ov, none⟩) la0_1 ca0_1 xa0_1 _ ha0_0 ha0_1 ((RA.out.below (by repeat (first | assumption | exact Below.refl _ _ | (refine Below.setCell ?_ (by first | omega | (simp; done) | (simp; omega)) _) | apply below_drewN | apply Below.drew | (refine Below.alloc ?_ (by first | omega | (simp; done) | (simp; omega)) _)))).mono (by first | omega | (simp; done) | (simp; omega))) ((RV.out.below (by repeat (first | assumption | exact Below.refl _ _ | (refine Below.setCell ?_ (by first | omega | (simp; done) | (simp; omega)) _) | apply below_drewN | apply Below.drew | (refine Below.alloc ?_ (by first | omega | (simp; done) | (simp; omega)) _)))).mono (by first | omega | (simp; done) | (simp; omega))) true (by simp [HC.out])).mono ?_; rintro e w1 ⟨rfl, b1⟩; have s1 : w.heap.size < w1.heap.size := (by have := b1.size; simp at this; omega); obtain ⟨k1, f1⟩ := bcell b1; have z0 : w1.cell? ⟨w.heap.size, 0, none⟩ = some (.slice (some ⟨bl, ol, none⟩) la0_0 ca0_0) := (by rw [k1 _ _ (by first | omega | (simp; done) | (simp; omega))]; first | (simp; done) | go_simp); have zf0 : w1.frozen? ⟨w.heap.size, 0, none⟩ = false := (by rw [f1 _ _ (by first | omega | (simp; done) | (simp; omega))]; first | (simp; done) | go_simp); have z1 : w1.cell? ⟨w.heap.size, 1, none⟩ = some (.slice (some ⟨bv, ov, none⟩) la0_1 ca0_1) := (by rw [k1 _ _ (by first | omega | (simp; done) | (simp; omega))]; first | (simp; done) | go_simp); have zf1 : w1.frozen? ⟨w.heap.size, 1, none⟩ = false := (by rw [f1 _ _ (by first | omega | (simp; done) | (simp; omega))]; first | (simp; done) | go_simp); clear k1 f1; have d1 : Below w.heap.size w w1 := (by repeat (first | assumption | exact Below.refl _ _ | (refine Below.trans ?_ (b1.mono (by first | omega | (simp; done) | (simp; omega)))) | (refine Below.setCell ?_ (by first | omega | (simp; done) | (simp; omega)) _) | apply below_drewN | apply Below.drew | (refine Below.alloc ?_ (by first | omega | (simp; done) | (simp; omega)) _))))
    have f12 : la0_0 ≤ 12 := by omega
    go_loopw [16] (fun i wr => ∃ k : Nat, k ≤ la0_0 ∧ i = .int .i64 (k : Int) ∧ Hid (Below w1.heap.size w1 wr) ∧ w1.heap.size < wr.heap.size ∧ Hid (HalfT la0_0 w1.heap.size (fun j => wordB (xa0_0.getD j 0) (xa0_1.getD j 0)) k wr)) (fun i _ => la0_0 - (intOf i).toNat)
    case atStart => exact ⟨0, by omega, rfl, (Below.refl _ _).alloc (Nat.le_refl _) _, by simp, HalfT.new _ _ _ _ _ rfl _ (by simp)⟩
    case round =>
      obtain ⟨k, hk, rfl, HB, hsz1, HH⟩ := hrel
      have hb : Below w.heap.size w wr := d1.trans (HB.out.mono (by omega))
      have c0 := (HB.out.cell (p := ⟨w.heap.size, 0, none⟩) s1).trans z0
      have c1 := (HB.out.cell (p := ⟨w.heap.size, 1, none⟩) s1).trans z1
      by_cases hlt : k < la0_0
      · have hb3 : bl < wr.heap.size := by omega
        have hb4 : bv < wr.heap.size := by omega
        obtain ⟨i0, i1⟩ := curve_i64 HC.out (show k < xa0_0.length by omega)
        have q0 := (hb.cell (p := ⟨bl, ol + k, none⟩) hbl).trans (HL.out k hlt)
        have q1 := (hb.cell (p := ⟨bv, ov + k, none⟩) hbv).trans (HV.out k (by omega))
        obtain ⟨y0, ey0⟩ : ∃ y0, y0 = xa0_0.getD k 0 := ⟨_, rfl⟩
        obtain ⟨y1, ey1⟩ : ∃ y1, y1 = xa0_1.getD k 0 := ⟨_, rfl⟩
        rw [← ey0] at i0 q0
        rw [← ey1] at i1 q1
        have EY0 := Lib.hid ey0
        have EY1 := Lib.hid ey1
        clear ey0 ey1
        have x0 := dB_size y0 i0
        have x1 := dB_size y1 i1
        obtain ⟨t0, E0⟩ : ∃ t0, Hid (t0 = dB y0) := ⟨_, rfl⟩
        obtain ⟨t1, E1⟩ : ∃ t1, Hid (t1 = dB y1) := ⟨_, rfl⟩
        have HW := Lib.hid (show t0 ++ ⟨#[58]⟩ ++ t1 = wordB (xa0_0.getD k 0) (xa0_1.getD k 0) by rw [E0.out, E1.out, EY0.out, EY1.out]; rfl)
        rw [← E0.out] at x0
        rw [← E1.out] at x1
        have g1 : (k : Int) < (la0_0 : Int) := by omega
        have g2 : (k : Int) < (la0_1 : Int) := by omega
        have g0 : (0 : Int) ≤ (k : Int) := by omega
        go_wp2_with fail
        refine wp_region_held_drew (S := fun w' => w'.cell? ⟨w.heap.size, 0, none⟩ = some (.slice (some ⟨bl, ol, none⟩) la0_0 ca0_0) ∧ w'.cell? ⟨w.heap.size, 1, none⟩ = some (.slice (some ⟨bv, ov, none⟩) la0_1 ca0_1) ∧ w'.cell? ⟨bv, ov + k, none⟩ = some (.int .i64 y1)) (by kernel_rfl) ⟨c0, c1, q1⟩ (fun hHeld => ?_)
        ((refine wpAnyH_take (i := 0) (oi := ⟨some 21, _, _, _, _, _⟩) (v := ?_) rfl (by kernel_rfl) (by kernel_rfl) (by kernel_rfl) (fun _ _ _ h => h) (Or.inl ⟨by rfl, ?_⟩) (by assumption) ?_; rotate_left 1; (focus (intro w hSw; (try dsimp only at hSw); go_simp <;> try (first | (with_reducible rfl) | (rw [if_neg (by omega)])))); try simp only [Act.put, List.setIfInBounds_toArray, List.set_cons_zero, List.set_cons_succ]); (refine wpAnyH_take (i := 1) (oi := ⟨some 22, _, _, _, _, _⟩) (v := ?_) rfl (by kernel_rfl) (by kernel_rfl) (by kernel_rfl) (fun _ _ _ h => h) (Or.inl ⟨by rfl, ?_⟩) (by assumption) ?_; rotate_left 1; (focus (intro w hSw; (try dsimp only at hSw); go_simp <;> try (first | (with_reducible rfl) | (rw [if_neg (by omega)])))); try simp only [Act.put, List.setIfInBounds_toArray, List.set_cons_zero, List.set_cons_succ]); (refine wpAnyH_take (i := 2) (oi := ⟨some 23, _, _, _, _, _⟩) (v := ?_) rfl (by kernel_rfl) (by kernel_rfl) (by kernel_rfl) (fun _ _ _ h => h) (Or.inl ⟨by rfl, ?_⟩) (by assumption) ?_; rotate_left 1; (focus (intro w hSw; (try dsimp only at hSw); go_simp <;> try (first | (with_reducible rfl) | (rw [if_neg (by omega)])))); try simp only [Act.put, List.setIfInBounds_toArray, List.set_cons_zero, List.set_cons_succ]); (refine wpAnyH_take (i := 5) (oi := ⟨some 26, _, _, _, _, _⟩) (v := ?_) rfl (by kernel_rfl) (by kernel_rfl) (by kernel_rfl) (fun _ _ _ h => h) (Or.inl ⟨by rfl, ?_⟩) (by assumption) ?_; rotate_left 1; (focus (intro w hSw; (try dsimp only at hSw); go_simp <;> try (first | (with_reducible rfl) | (rw [if_neg (by omega)])))); try simp only [Act.put, List.setIfInBounds_toArray, List.set_cons_zero, List.set_cons_succ]); (refine wpAnyH_take (i := 6) (oi := ⟨some 27, _, _, _, _, _⟩) (v := ?_) rfl (by kernel_rfl) (by kernel_rfl) (by kernel_rfl) (fun _ _ _ h => h) (Or.inl ⟨by rfl, ?_⟩) (by assumption) ?_; rotate_left 1; (focus (intro w hSw; (try dsimp only at hSw); go_simp <;> try (first | (with_reducible rfl) | (rw [if_neg (by omega)])))); try simp only [Act.put, List.setIfInBounds_toArray, List.set_cons_zero, List.set_cons_succ]); (refine wpAnyH_take (i := 7) (oi := ⟨some 28, _, _, _, _, _⟩) (v := ?_) rfl (by kernel_rfl) (by kernel_rfl) (by kernel_rfl) (fun _ _ _ h => h) (Or.inl ⟨by rfl, ?_⟩) (by assumption) ?_; rotate_left 1; (focus (intro w hSw; (try dsimp only at hSw); go_simp <;> try (first | (with_reducible rfl) | (rw [if_neg (by omega)])))); try simp only [Act.put, List.setIfInBounds_toArray, List.set_cons_zero, List.set_cons_succ]); (refine wpAnyH_take (i := 8) (oi := ⟨some 29, _, _, _, _, _⟩) (v := ?_) rfl (by kernel_rfl) (by kernel_rfl) (by kernel_rfl) (fun _ _ _ h => h) (Or.inl ⟨by rfl, ?_⟩) (by assumption) ?_; rotate_left 1; (focus (intro w hSw; (try dsimp only at hSw); go_simp <;> try (first | (with_reducible rfl) | (rw [if_neg (by omega)])))); try simp only [Act.put, List.setIfInBounds_toArray, List.set_cons_zero, List.set_cons_succ]); (refine wpAnyH_take (i := 9) (oi := ⟨some 30, _, _, _, _, _⟩) (v := ?_) rfl (by kernel_rfl) (by kernel_rfl) (by kernel_rfl) (fun _ _ _ h => h) (Or.inl ⟨by rfl, ?_⟩) (by assumption) ?_; rotate_left 1; (focus (intro w hSw; (try dsimp only at hSw); go_simp <;> try (first | (with_reducible rfl) | (rw [if_neg (by omega)])))); try simp only [Act.put, List.setIfInBounds_toArray, List.set_cons_zero, List.set_cons_succ]))
        (refine wpAnyH_ready (rs := [3]) (by kernel_rfl) (by simp) ?_; refine AllReadyH.cons rfl (fun K hK => ?_) AllReadyH.nil; go_simp)
        refine (dec_implT y0 t0 _ i0 (pow_below HT.out hb.drew) E0.out).mono ?_
        rintro e1 W1 ⟨rfl, b1⟩
        have s1 : wr.heap.size ≤ W1.heap.size := by have h := b1.size; have h2 : wr.heap.size ≤ wr.drew.heap.size := Nat.le_refl _; omega
        have z1_0 := (b1.cell (p := ⟨w.heap.size, 0, none⟩) (show w.heap.size < _ from Nat.lt_of_lt_of_le (show w.heap.size < wr.heap.size by omega) (Nat.le_refl _))).trans hHeld.1
        have z1_1 := (b1.cell (p := ⟨w.heap.size, 1, none⟩) (show w.heap.size < _ from Nat.lt_of_lt_of_le (show w.heap.size < wr.heap.size by omega) (Nat.le_refl _))).trans hHeld.2.1
        have z1_2 := (b1.cell (p := ⟨bv, ov + k, none⟩) (show bv < _ from Nat.lt_of_lt_of_le (show bv < wr.heap.size by omega) (Nat.le_refl _))).trans hHeld.2.2
        have d1' : Below w.heap.size w W1 := hb.trans ((below_from_drew b1).mono (by omega))
        have h1 := HalfT.below (w := wr.drew) HH.out b1 (show w1.heap.size < wr.heap.size by omega)
        have B1 : Below w1.heap.size w1 W1 := HB.out.trans ((below_from_drew b1).mono (by omega))
        clear hHeld
        (refine hK.out _ _ ?_ (fun hHeld => ?_))
        · exact ⟨z1_0, z1_1, z1_2⟩
        ((refine wpAnyH_take (i := 4) (oi := ⟨some 25, _, _, _, _, _⟩) (v := ?_) rfl (by kernel_rfl) (by kernel_rfl) (by kernel_rfl) (fun _ _ _ h => h) (Or.inl ⟨by rfl, ?_⟩) (by assumption) ?_; rotate_left 1; (focus (intro w hSw; (try dsimp only at hSw); go_simp <;> try (first | (with_reducible rfl) | (rw [if_neg (by omega)])))); try simp only [Act.put, List.setIfInBounds_toArray, List.set_cons_zero, List.set_cons_succ]))
        (refine wpAnyH_ready (rs := [10]) (by kernel_rfl) (by simp) ?_; refine AllReadyH.cons rfl (fun K hK => ?_) AllReadyH.nil; go_simp)
        refine (dec_implT y1 t1 _ i1 (pow_below HT.out d1') E1.out).mono ?_
        rintro e2 W2 ⟨rfl, b2⟩
        have s2 : wr.heap.size ≤ W2.heap.size := by have h := b2.size; omega
        have z2_0 := (b2.cell (p := ⟨w.heap.size, 0, none⟩) (show w.heap.size < _ from Nat.lt_of_lt_of_le (show w.heap.size < wr.heap.size by omega) s1)).trans hHeld.1
        have z2_1 := (b2.cell (p := ⟨w.heap.size, 1, none⟩) (show w.heap.size < _ from Nat.lt_of_lt_of_le (show w.heap.size < wr.heap.size by omega) s1)).trans hHeld.2.1
        have z2_2 := (b2.cell (p := ⟨bv, ov + k, none⟩) (show bv < _ from Nat.lt_of_lt_of_le (show bv < wr.heap.size by omega) s1)).trans hHeld.2.2
        have d2' : Below w.heap.size w W2 := d1'.trans (b2.mono (by omega))
        have h2 := HalfT.below h1 b2 (by omega)
        have B2 : Below w1.heap.size w1 W2 := B1.trans (b2.mono (by omega))
        obtain ⟨m2, n2⟩ := h2 k hlt
        rw [if_neg (Nat.lt_irrefl k)] at m2
        clear hHeld
        (refine hK.out _ _ ?_ (fun hHeld => ?_))
        · exact ⟨z2_0, z2_1, z2_2⟩
        ((refine wpAnyH_take (i := 11) (oi := ⟨some 32, _, _, _, _, _⟩) (v := ?_) rfl (by kernel_rfl) (by kernel_rfl) (by kernel_rfl) (fun _ _ _ h => h) (Or.inl ⟨by rfl, ?_⟩) (by assumption) ?_; rotate_left 1; (focus (intro w hSw; (try dsimp only at hSw); go_simp <;> try (first | (with_reducible rfl) | (rw [if_neg (by omega)])))); try simp only [Act.put, List.setIfInBounds_toArray, List.set_cons_zero, List.set_cons_succ]); (refine wpAnyH_take (i := 12) (oi := ⟨some 33, _, _, _, _, _⟩) (v := ?_) rfl (by kernel_rfl) (by kernel_rfl) (by kernel_rfl) (fun _ _ _ h => h) (Or.inl ⟨by rfl, ?_⟩) (by assumption) ?_; rotate_left 1; (focus (intro w hSw; (try dsimp only at hSw); go_simp <;> try (first | (with_reducible rfl) | (rw [if_neg (by omega)])))); try simp only [Act.put, List.setIfInBounds_toArray, List.set_cons_zero, List.set_cons_succ]))
        (refine wpAnyH_ready (rs := [13]) (by kernel_rfl) (by simp) ?_; refine AllReadyH.cons rfl (fun K hK => ?_) AllReadyH.nil; go_simp)
        have v0 := (World.cell?_setCell_other W2 ⟨w1.heap.size, k, none⟩ ⟨w.heap.size, 0, none⟩ (.string (t0 ++ ⟨#[58]⟩ ++ t1)) (by simp <;> omega)).trans z2_0
        have v1 := (World.cell?_setCell_other W2 ⟨w1.heap.size, k, none⟩ ⟨w.heap.size, 1, none⟩ (.string (t0 ++ ⟨#[58]⟩ ++ t1)) (by simp <;> omega)).trans z2_1
        have v2 := (World.cell?_setCell_other W2 ⟨w1.heap.size, k, none⟩ ⟨bv, ov + k, none⟩ (.string (t0 ++ ⟨#[58]⟩ ++ t1)) (by simp <;> omega)).trans z2_2
        (refine hK.out _ _ ?_ (fun hHeld => ?_))
        · exact ⟨v0, v1, v2⟩
        refine wpAnyH_done (by kernel_rfl) ?_ _
  
        go_wp2
        go_roundw
        case rel => exact ⟨k + 1, by omega, by go_num, B2.setCell (Nat.le_refl _) _, by show w1.heap.size < (W2.setCell _ _).heap.size; simp [World.setCell]; omega, h2.step _ HW.out⟩
        case measure => simp [intOf]; omega
      · obtain rfl : k = la0_0 := by omega
        have hj := join_t k w1.heap.size xa0_0 xa0_1 wr (by omega) (by omega) HC.out HH.out hsz1
        go_wp2_with (go_at_call 21; refine hj.mono ?_; rintro e w5 ⟨rfl, b5⟩)
        go_ret
        exact ⟨rfl, hb.trans (b5.mono (by omega))⟩
  · have HC := Lib.hid hv
    have HE := Lib.hid (show r0_CurveText xa0_0 xa0_1 = ⟨#[]⟩ from if_neg hv)
    rw [HE.out]
    clear hv hl0 hl1 ra0_0 ra0_1
    go_enter Tryd.func8, Tryd.ntmps8
    go_wp2_with (go_at_call 19; refine (impl_vcurve a0_0 la0_0 ca0_0 xa0_0 a0_1 la0_1 ca0_1 xa0_1 _ ha0_0 ha0_1 ((RA.out.below (by repeat (first | assumption | exact Below.refl _ _ | (refine Below.setCell ?_ (by first | omega | (simp; done) | (simp; omega)) _) | apply below_drewN | apply Below.drew | (refine Below.alloc ?_ (by first | omega | (simp; done) | (simp; omega)) _)))).mono (by first | omega | (simp; done) | (simp; omega))) ((RV.out.below (by repeat (first | assumption | exact Below.refl _ _ | (refine Below.setCell ?_ (by first | omega | (simp; done) | (simp; omega)) _) | apply below_drewN | apply Below.drew | (refine Below.alloc ?_ (by first | omega | (simp; done) | (simp; omega)) _)))).mono (by first | omega | (simp; done) | (simp; omega))) false (by simp [HC.out])).mono ?_; rintro e w1 ⟨rfl, b1⟩; have s1 : w.heap.size < w1.heap.size := (by have := b1.size; simp at this; omega); obtain ⟨k1, f1⟩ := bcell b1; have z0 : w1.cell? ⟨w.heap.size, 0, none⟩ = some (.slice a0_0 la0_0 ca0_0) := (by rw [k1 _ _ (by first | omega | (simp; done) | (simp; omega))]; first | (simp; done) | go_simp); have zf0 : w1.frozen? ⟨w.heap.size, 0, none⟩ = false := (by rw [f1 _ _ (by first | omega | (simp; done) | (simp; omega))]; first | (simp; done) | go_simp); have z1 : w1.cell? ⟨w.heap.size, 1, none⟩ = some (.slice a0_1 la0_1 ca0_1) := (by rw [k1 _ _ (by first | omega | (simp; done) | (simp; omega))]; first | (simp; done) | go_simp); have zf1 : w1.frozen? ⟨w.heap.size, 1, none⟩ = false := (by rw [f1 _ _ (by first | omega | (simp; done) | (simp; omega))]; first | (simp; done) | go_simp); clear k1 f1; have d1 : Below w.heap.size w w1 := (by repeat (first | assumption | exact Below.refl _ _ | (refine Below.trans ?_ (b1.mono (by first | omega | (simp; done) | (simp; omega)))) | (refine Below.setCell ?_ (by first | omega | (simp; done) | (simp; omega)) _) | apply below_drewN | apply Below.drew | (refine Below.alloc ?_ (by first | omega | (simp; done) | (simp; omega)) _))))
    go_ret
    exact ⟨rfl, d1⟩


end Go.Proofs.YtneabcfpdkndkaaDoor
