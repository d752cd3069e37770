/- The laws' helpers over rows of pairs: equal, mark, held. -/
import Derived.Test.YtagnhlcgfcppjacPairs
import Derived.Test.YtagnhlcgfcppjacReg
namespace Go.Proofs.Ytagnhlcgfcppjac
open Go.RowKit

/-- the blocks gs hold the pairs ps (of any numbers), and may be written -/
structure PrI (W : World) (base : Nat) (gs : List Nat) (ps : List (Int × Int)) : Prop where
  len : gs.length = ps.length
  at' : ∀ j, j < ps.length → Wr W base (some ⟨gs.getD j 0, 0, none⟩) 2 [(ps.getD j (0, 0)).1, (ps.getD j (0, 0)).2]
  ord : ∀ i j, i < j → j < ps.length → gs.getD i 0 < gs.getD j 0
def toI (ps : List (Nat × Nat)) : List (Int × Int) := ps.map fun p => ((p.1 : Int), (p.2 : Int))
theorem toI_len (ps : List (Nat × Nat)) : (toI ps).length = ps.length := by simp [toI]
theorem Prs.toI {W : World} {base : Nat} {gs : List Nat} {ps : List (Nat × Nat)} (h : Prs W base gs ps) : PrI W base gs (toI ps) :=
  ⟨by rw [toI_len]; exact h.len, fun j hj => by
    rw [toI_len] at hj
    have e : (Go.Proofs.Ytagnhlcgfcppjac.toI ps).getD j (0, 0) = (((ps.getD j (0, 0)).1 : Int), ((ps.getD j (0, 0)).2 : Int)) := by
      unfold Go.Proofs.Ytagnhlcgfcppjac.toI
      simp [List.getD_eq_getElem?_getD, List.getElem?_eq_getElem hj]
    rw [e]
    obtain ⟨c0, c1, f⟩ := h.cell hj
    refine ⟨rfl, fun _ => ⟨_, 0, rfl, (h.at' j hj).1, h.lt hj, fun i hi => ?_⟩⟩
    match i, hi with
    | 0, _ => exact ⟨c0, f _⟩
    | 1, _ => exact ⟨c1, f _⟩, fun i j hij hj => h.ord i j hij (by rw [toI_len] at hj; exact hj)⟩
theorem PrI.lt {W : World} {base : Nat} {gs : List Nat} {ps : List (Int × Int)} (h : PrI W base gs ps) {j : Nat} (hj : j < ps.length) : base ≤ gs.getD j 0 ∧ gs.getD j 0 < W.heap.size := by
  obtain ⟨b, o, e, h0, h1, _⟩ := (h.at' j hj).2 (by omega)
  injection e with e
  injection e with e _
  omega
theorem PrI.rd {W : World} {base : Nat} {gs : List Nat} {ps : List (Int × Int)} (h : PrI W base gs ps) {j : Nat} (hj : j < ps.length) : Rd W W.heap.size (some ⟨gs.getD j 0, 0, none⟩) 2 [(ps.getD j (0, 0)).1, (ps.getD j (0, 0)).2] := (h.at' j hj).rd
theorem PrI.belowS {W W' : World} {base : Nat} {gs : List Nat} {ps : List (Int × Int)} (h : PrI W base gs ps) (hb : Below W.heap.size W W') : PrI W' base gs ps :=
  ⟨h.len, fun j hj => (h.at' j hj).below hb, h.ord⟩
theorem PrI.belowB {W W' : World} {base B : Nat} {gs : List Nat} {ps : List (Int × Int)} (h : PrI W base gs ps) (hb : Below B W W') (hB : ∀ j, j < ps.length → gs.getD j 0 < B) : PrI W' base gs ps :=
  ⟨h.len, fun j hj => ⟨rfl, fun hn => by
    obtain ⟨b, off, e, h0, hB', hc⟩ := (h.at' j hj).2 hn
    have hbB : b < B := by have := hB j hj; injection e with e; injection e with e _; omega
    exact ⟨b, off, e, h0, Nat.lt_of_lt_of_le hB' hb.size, fun i hi => ⟨(hb.cell (p := ⟨b, off + i, none⟩) hbB).trans (hc i hi).1, (hb.frozen (p := ⟨b, off + i, none⟩) hbB).trans (hc i hi).2⟩⟩⟩, h.ord⟩
theorem PrI.chg {W W' : World} {base lo hi : Nat} {gs : List Nat} {ps : List (Int × Int)} (h : PrI W base gs ps) (hc : Chg lo hi W W') (hb : hi ≤ base) : PrI W' base gs ps :=
  ⟨h.len, fun j hj => (h.at' j hj).chg (hi1 := W.heap.size) (h.at' j hj).lt hc (.inr hb), h.ord⟩
/-- the outer row: its cells name the blocks -/
def Outer (W : World) (lo B : Nat) (A : Option Addr) (n : Nat) (gs : List Nat) : Prop := gs.length = n ∧ (0 < n → ∃ g, A = some ⟨g, 0, none⟩ ∧ lo ≤ g ∧ g < B ∧ ∀ j, j < n → W.cell? ⟨g, j, none⟩ = some (sl2 (gs.getD j 0)))
theorem outer_of {w : World} {B n c : Nat} {A : Option Addr} {gs : List Nat} (h : w.ownsRow B 22 1 (.slice A n c) n (gs.map sl2)) : Outer w B w.heap.size A n gs := by
  have hl : gs.length = n := by have := h.1; simpa using this
  refine ⟨hl, fun hn => ?_⟩
  obtain ⟨g, rfl, hg⟩ := own_vals h hn
  refine ⟨g, rfl, (h.lt g rfl).1, (h.lt g rfl).2, fun j hj => ?_⟩
  rw [hg j hj, List.getElem?_map, List.getElem?_eq_getElem (show j < gs.length by omega)]
  simp [List.getD_eq_getElem?_getD, List.getElem?_eq_getElem (show j < gs.length by omega)]
theorem Outer.below {W W' : World} {lo B : Nat} {A : Option Addr} {n : Nat} {gs : List Nat} (h : Outer W lo B A n gs) (hb : Below B W W') : Outer W' lo B A n gs :=
  ⟨h.1, fun hn => by
    obtain ⟨g, e, hlo, hg, hc⟩ := h.2 hn
    exact ⟨g, e, hlo, hg, fun j hj => (hb.cell (p := ⟨g, j, none⟩) hg).trans (hc j hj)⟩⟩
theorem Outer.mono {W : World} {lo B B' : Nat} {A : Option Addr} {n : Nat} {gs : List Nat} (h : Outer W lo B A n gs) (hb : B ≤ B') : Outer W lo B' A n gs :=
  ⟨h.1, fun hn => by
    obtain ⟨g, e, hlo, hg, hc⟩ := h.2 hn
    exact ⟨g, e, hlo, by omega, hc⟩⟩
theorem Outer.chg {W W' : World} {l0 h0 lo B : Nat} {A : Option Addr} {n : Nat} {gs : List Nat} (h : Outer W lo B A n gs) (hc : Chg l0 h0 W W') (hB : B ≤ W.heap.size) (hh : h0 ≤ lo) : Outer W' lo B A n gs :=
  ⟨h.1, fun hn => by
    obtain ⟨g, e, hlo, hg, hcc⟩ := h.2 hn
    exact ⟨g, e, hlo, hg, fun j hj => (hc.cell (by omega) (.inr (by omega))).trans (hcc j hj)⟩⟩
theorem outer_nil (W : World) (lo B : Nat) : Outer W lo B none 0 [] := ⟨rfl, fun h => absurd h (by omega)⟩
theorem prI_nil (W : World) (base : Nat) : PrI W base [] (toI []) := ⟨rfl, fun j hj => absurd hj (by simp [toI]), fun i j _ hj => absurd hj (by simp [toI])⟩

set_option maxHeartbeats 800000 in
theorem eqSS_t (A B : Option Addr) (n c d ba bb la lb : Nat) (ga gb : List Nat) (ps : List (Int × Int)) (w : World) (hn : n ≤ 100000) (oa : Outer w la w.heap.size A n ga) (ob : Outer w lb w.heap.size B n gb) (pa : PrI w ba ga ps) (pb : PrI w bb gb ps) :
    Calls Try.prog 42 #[.slice A n c, .slice B n d] w fun e w' => e = .returned (.bool true) ∧ Below w.heap.size w w' := by
  have h0 : ((n : Int) != (n : Int)) = false := by simp
  have OA := Lib.hid oa
  have OB := Lib.hid ob
  have PA := Lib.hid pa
  have PB := Lib.hid pb
  have hl : ps.length = n := by rw [← pa.len]; exact oa.1
  clear oa ob pa pb
  go_enter Try.func42, Try.ntmps42
  go_wp2
  go_loopw [5] (fun i wr => ∃ k : Nat, k ≤ n ∧ i = .int .i64 (k : Int) ∧ Below w.heap.size w wr) (fun i _ => n - (intOf i).toNat)
  case atStart => exact ⟨0, by omega, rfl, Below.refl _ _⟩
  case round =>
    obtain ⟨k, hk, rfl, hb⟩ := hrel
    have hz := hb.size
    by_cases hlt : k < n
    · obtain ⟨g, rfl, _, hg, hc⟩ := OA.out.2 (by omega)
      obtain ⟨g', rfl, _, hg', hc'⟩ := OB.out.2 (by omega)
      have c1 := (hb.cell (p := ⟨g, k, none⟩) hg).trans (hc k hlt)
      have c2 := (hb.cell (p := ⟨g', k, none⟩) hg').trans (hc' k hlt)
      have RA := Lib.hid (((PA.out.belowS hb).rd (j := k) (by omega)))
      have RB := Lib.hid (((PB.out.belowS hb).rd (j := k) (by omega)))
      unfold sl2 at c1 c2
      generalize ga.getD k 0 = x at *
      generalize gb.getD k 0 = y at *
      clear hc hc'
      go_wp2
      go_quiet ((go_at_call 18; exact Calls.quiet_of ((eqInts_t (some ⟨x, 0, none⟩) (some ⟨y, 0, none⟩) 2 2 2 _ _ (by omega) (RA.out.drewN _) (RB.out.drewN _)))))
      go_wp2
      go_roundw
      case rel => exact ⟨k + 1, by omega, by go_num, below_drewN hb _⟩
      case measure => simp [intOf]; omega
    · obtain rfl : k = n := by omega
      go_wp2
      go_ret
      exact ⟨rfl, hb⟩

/-- what the marks of a row of pairs are -/
def mkP (k0 : Int) (n : Nat) : List (Int × Int) := (List.range n).map fun (j : Nat) => (k0 + 2 * (j : Int), k0 + 2 * (j : Int) + 1)
theorem mkP_len (k0 : Int) (n : Nat) : (mkP k0 n).length = n := by simp [mkP]
theorem mkP_at (k0 : Int) (n j : Nat) (h : j < n) : (mkP k0 n).getD j (0, 0) = (k0 + 2 * (j : Int), k0 + 2 * (j : Int) + 1) := by simp [mkP, List.getD_eq_getElem?_getD, h]

set_option maxHeartbeats 800000 in
theorem heldSS_t (A : Option Addr) (n c ba la : Nat) (ga : List Nat) (k0 : Int) (w : World) (hn : n ≤ 100000) (h1 : 0 ≤ k0) (h2 : k0 ≤ 1000000) (oa : Outer w la w.heap.size A n ga) (pa : PrI w ba ga (mkP k0 n)) :
    Calls Try.prog 44 #[.slice A n c, .int .i64 k0] w fun e w' => e = .returned (.int .i64 (k0 + 2 * (n : Int))) ∧ w = w' := by
  have OA := Lib.hid oa
  have PA := Lib.hid pa
  clear oa pa
  go_enter Try.func44, Try.ntmps44
  go_wp2
  go_loop [1, 5] (fun q i => ∃ k : Nat, k ≤ n ∧ i = .int .i64 (k : Int) ∧ q = .int .i64 (k0 + 2 * (k : Int))) (fun _ i => n - (intOf i).toNat)
  case atStart => exact ⟨0, by omega, rfl, by simp⟩
  case round =>
    obtain ⟨k, hk, rfl, rfl⟩ := hrel
    by_cases hlt : k < n
    · obtain ⟨g, rfl, _, hg, hc⟩ := OA.out.2 (by omega)
      have c1 := hc k hlt
      have hrd := PA.out.rd (j := k) (by rw [mkP_len]; exact hlt)
      rw [mkP_at k0 n k hlt] at hrd
      have RA := Lib.hid (show Rd w w.heap.size (some ⟨ga.getD k 0, 0, none⟩) 2 (marks (k0 + 2 * (k : Int)) 2) from by
        have e : marks (k0 + 2 * (k : Int)) 2 = [k0 + 2 * (k : Int), k0 + 2 * (k : Int) + 1] := by simp [marks, List.range_succ]
        rw [e]; exact hrd)
      unfold sl2 at c1
      generalize ga.getD k 0 = x at *
      clear hc hrd
      go_wp2_with (go_at_call 22; refine (heldInts_t (some ⟨x, 0, none⟩) 2 2 (k0 + 2 * (k : Int)) _ (by omega) (by omega) (by omega) RA.out).mono ?_; rintro e w' ⟨rfl, rfl⟩)
      go_round
      case rel => exact ⟨k + 1, by omega, by go_num, by simp; omega⟩
      case measure => simp [intOf]; omega
    · obtain rfl : k = n := by omega
      go_wp2
      go_ret
      exact ⟨rfl, rfl⟩

def mixP (k0 : Int) (ps : List (Int × Int)) (k : Nat) : List (Int × Int) := (List.range ps.length).map fun (j : Nat) => if j < k then (k0 + 2 * (j : Int), k0 + 2 * (j : Int) + 1) else ps.getD j (0, 0)
theorem mixP_len (k0 : Int) (ps : List (Int × Int)) (k : Nat) : (mixP k0 ps k).length = ps.length := by simp [mixP]
theorem mixP_at (k0 : Int) (ps : List (Int × Int)) (k j : Nat) (h : j < ps.length) : (mixP k0 ps k).getD j (0, 0) = if j < k then (k0 + 2 * (j : Int), k0 + 2 * (j : Int) + 1) else ps.getD j (0, 0) := by simp [mixP, List.getD_eq_getElem?_getD, h]

set_option maxHeartbeats 1600000 in
theorem markSS_t (A : Option Addr) (n c ba B la : Nat) (ga : List Nat) (ps : List (Int × Int)) (k0 : Int) (w : World) (hn : n ≤ 100000) (h1 : 0 ≤ k0) (h2 : k0 ≤ 1000000) (hB : B ≤ w.heap.size) (_hba : ba ≤ w.heap.size) (oa : Outer w la B A n ga) (pa : PrI w ba ga ps) :
    Calls Try.prog 43 #[.slice A n c, .int .i64 k0] w fun e w' => e = .returned (.int .i64 (k0 + 2 * (n : Int))) ∧ Below ba w w' ∧ Outer w' la B A n ga ∧ PrI w' ba ga (mkP k0 n) := by
  have hl : ps.length = n := by rw [← pa.len]; exact oa.1
  have OA := Lib.hid oa
  have PA := Lib.hid pa
  -- the outer row's block holds slices, the pairs' blocks numbers
  have HNE := Lib.hid (show ∀ g, A = some ⟨g, 0, none⟩ → ∀ j, j < n → ga.getD j 0 ≠ g from fun g e j hj e2 => by
    obtain ⟨g', e', _, _, hc⟩ := oa.2 (by omega)
    rw [e] at e'
    injection e' with e'
    injection e' with e' _
    have c0 := hc 0 (by omega)
    obtain ⟨b, o, e3, _, _, hc2⟩ := (pa.at' j (by omega)).2 (by omega)
    injection e3 with e3
    injection e3 with e3 e4
    have c1 := (hc2 0 (by omega)).1
    rw [← e', ← e2, e3] at c0
    rw [← e4] at c1
    rw [c0] at c1
    unfold sl2 at c1
    injection c1 with c1
    cases c1)
  clear oa pa
  go_enter Try.func43, Try.ntmps43
  go_wp2
  go_loopw [1, 5] (fun q i wr => ∃ k : Nat, k ≤ n ∧ i = .int .i64 (k : Int) ∧ q = .int .i64 (k0 + 2 * (k : Int)) ∧ Below ba w wr ∧ Hid (Outer wr la B A n ga) ∧ Hid (PrI wr ba ga (mixP k0 ps k))) (fun _ i _ => n - (intOf i).toNat)
  case atStart => exact ⟨0, by omega, rfl, by simp, Below.refl _ _, OA.out, by
    have e : mixP k0 ps 0 = ps := by
      apply List.ext_getElem (mixP_len _ _ _)
      intro i hi1 hi2
      simp [mixP, List.getD_eq_getElem?_getD, List.getElem?_eq_getElem hi2]
    rw [e]; exact PA.out⟩
  case round =>
    obtain ⟨k, hk, rfl, rfl, hb, HO, HP⟩ := hrel
    have hz := hb.size
    by_cases hlt : k < n
    · obtain ⟨g, rfl, hlo, hg, hc⟩ := HO.out.2 (by omega)
      have c1 := hc k hlt
      have hwk := HP.out.at' k (by rw [mixP_len]; omega)
      have HWK := Lib.hid hwk
      have hgk := HP.out.lt (j := k) (by rw [mixP_len]; omega)
      unfold sl2 at c1
      obtain ⟨x, hx⟩ : ∃ x, x = ga.getD k 0 := ⟨_, rfl⟩
      rw [← hx] at c1 HWK hgk
      have HX := Lib.hid hx
      clear hc hwk hx
      go_wp2_with (go_at_call 21; refine (markInts_w (some ⟨x, 0, none⟩) ba 2 2 _ (k0 + 2 * (k : Int)) _ (by omega) (by omega) (by omega) HWK.out).mono ?_; rintro e w2 ⟨rfl, b2, g2, x2⟩)
      have hgb : wr.grownBy w2 (some x) := g2
      have HO2 : Outer w2 la B (some ⟨g, 0, none⟩) n ga := ⟨HO.out.1, fun hn0 => by
        obtain ⟨g', e', _, hg', hc'⟩ := HO.out.2 hn0
        injection e' with e'
        injection e' with e' _
        subst e'
        refine ⟨g, rfl, hlo, hg, fun j hj => (World.cell?_of_block (w := wr) (a := ⟨g, j, none⟩) (hgb.block g (by omega) (fun e => ?_))).trans (hc' j hj)⟩
        injection e with e
        exact HNE.out g rfl k hlt (by rw [← HX.out]; exact e.symm)⟩
      have HP2 : PrI w2 ba ga (mixP k0 ps (k + 1)) := ⟨by rw [mixP_len, ← mixP_len k0 ps k]; exact HP.out.len, fun j hj => by
        rw [mixP_len] at hj
        rw [mixP_at _ _ _ _ hj]
        by_cases e : j = k
        · subst e
          rw [if_pos (by omega), ← HX.out]
          have em : marks (k0 + 2 * (j : Int)) 2 = [k0 + 2 * (j : Int), k0 + 2 * (j : Int) + 1] := by simp [marks, List.range_succ]
          rw [em] at x2
          exact x2
        · have hw := HP.out.at' j (by rw [mixP_len]; exact hj)
          rw [mixP_at _ _ _ _ hj] at hw
          have e2 : (if j < k + 1 then (k0 + 2 * (j : Int), k0 + 2 * (j : Int) + 1) else ps.getD j (0, 0)) = if j < k then (k0 + 2 * (j : Int), k0 + 2 * (j : Int) + 1) else ps.getD j (0, 0) := by
            by_cases h : j < k
            · rw [if_pos h, if_pos (by omega)]
            · rw [if_neg h, if_neg (by omega)]
          rw [e2]
          refine hw.grown hgb (fun _ => ?_)
          show some (ga.getD j 0) ≠ some x
          rw [HX.out]
          intro e3
          injection e3 with e3
          rcases Nat.lt_or_gt_of_ne e with h | h
          · have := HP.out.ord j k h (by rw [mixP_len]; omega); omega
          · have := HP.out.ord k j h (by rw [mixP_len]; omega); omega, fun i j hij hj => HP.out.ord i j hij (by rw [mixP_len] at hj ⊢; exact hj)⟩
      go_roundw
      case rel => exact ⟨k + 1, by omega, by go_num, by simp; omega, hb.trans b2, HO2, HP2⟩
      case measure => simp [intOf]; omega
    · obtain rfl : k = n := by omega
      go_wp2
      go_ret
      refine ⟨rfl, hb, HO.out, ?_⟩
      have e : mixP k0 ps k = mkP k0 k := by
        apply List.ext_getElem (by rw [mixP_len, mkP_len]; exact hl)
        intro i hi1 hi2
        rw [mkP_len] at hi2
        simp [mixP, mkP, hi2]
      rw [← e]
      exact HP.out

end Go.Proofs.Ytagnhlcgfcppjac
