/- The walk of the law on levels. -/
import Derived.Test.YthfemghfkfmkdaaGreatDoorDrawL
import Derived.Test.YthfemghfkfmkdaaGreatDoorLevL
import Derived.Test.YthfemghfkfmkdaaGreatDoorWFnExactReadLevel
import Derived.BigQuiet
import Derived.Laws.StructEq
namespace Go.Proofs.YthfemghfkfmkdaaGreatDoor
open Go.RowKit

theorem IsRow.by {w : World} {a : Option Addr} {len cap : Nat} {zs : List Int} (h : IsRow .u8 w a len cap zs) : ByR w a len := by
  rcases h with ⟨rfl, rfl, rfl, rfl⟩ | ⟨x, rfl, hl, hm, hz, hc, hw⟩
  · exact fun h => absurd h (by omega)
  · intro hn
    have c0 := hc 0 (by omega)
    obtain ⟨b, off, spot⟩ := x
    have hspot : spot = none := by simpa [Addr.add] using World.cell?_spot c0
    subst hspot
    have hb := World.block_lt_of_cell? _ _ c0
    refine ⟨b, off, rfl, by simpa [Addr.add] using hb, fun j hj => ?_⟩
    have cj := hc j (by omega)
    rw [addr_add] at cj
    have hz2 : zs.getD j 0 ∈ zs := by
      rw [List.getD_eq_getElem?_getD, List.getElem?_eq_getElem (show j < zs.length by omega)]
      exact List.getElem_mem _
    generalize zs.getD j 0 = x at cj hz2
    have hx := hw x hz2
    simp [Lit.wf, IntKind.min, IntKind.max, IntKind.signed, IntKind.bits] at hx
    exact ⟨x, cj, by omega, by omega⟩

set_option maxHeartbeats 400000 in
theorem big_f (A : Option Addr) (n c : Nat) (w : World) (h : n ≤ 4096) : Calls Tryz.prog 4 #[.slice A n c] w fun e w' => e = .returned (.bool false) ∧ w = w' := by
  have h1 : (n : Int) ≤ 4096 := by omega
  go_enter Tryz.func4, Tryz.ntmps4
  go_wp2
  go_ret
  exact ⟨ret_bool (by first | (simp; done) | (simp; omega)), rfl⟩
set_option maxHeartbeats 400000 in
theorem big_t (A : Option Addr) (n c : Nat) (w : World) (h : ¬ n ≤ 4096) : Calls Tryz.prog 4 #[.slice A n c] w fun e w' => e = .returned (.bool true) ∧ w = w' := by
  have h1 : (4096 : Int) < (n : Int) := by omega
  go_enter Tryz.func4, Tryz.ntmps4
  go_wp2
  go_ret
  exact ⟨ret_bool (by first | (simp; done) | (simp; omega)), rfl⟩


theorem ne_size {y : ByteArray} (h : y ≠ ⟨#[]⟩) : 0 < y.size := by
  rcases Nat.eq_zero_or_pos y.size with hz | hz
  · exfalso
    apply h
    apply bytes_ext
    have : y.data.toList.length = 0 := by simpa using hz
    simpa using List.length_eq_zero_iff.1 this
  · exact hz

theorem rd_al {w : World} {A : Option Addr} {n : Nat} {xs : List Int} (h : Rd w w.heap.size A n xs) (o : Obj) : Rd (w.alloc o) (w.alloc o).heap.size A n xs :=
  (h.below ((Below.refl _ _).alloc (Nat.le_refl _) o)).mono (by simp)
/-- what the middle's code says -/
theorem md_fact {xs : List Int} {m : Nat} (hl : xs.length = m) : r1_MedianLevel xs = 0 → LvOk m xs ∧ 0 < m ∧ r0_MedianLevel xs = midOf xs := by
  subst hl
  intro h
  unfold r1_MedianLevel at h
  by_cases hv : LvOk xs.length xs
  · by_cases h0 : 0 < xs.length
    · exact ⟨hv, h0, if_pos ⟨hv, h0⟩⟩
    · rw [if_pos hv, if_neg h0] at h; exact absurd h (by decide)
  · rw [if_neg hv] at h; exact absurd h (by decide)
/-- each wrong gauge is one, and off by more -/
theorem wg_fact {xs : List Int} {m i : Nat} {y : Int} (hl : xs.length = m) (h : i < (r0_WrongGauges xs y).length) :
    ∃ q : Nat, q < m ∧ (r0_WrongGauges xs y).getD i 0 = (q : Int) ∧ (xs.getD q 0 < r0_MedianLevel xs - y ∨ r0_MedianLevel xs + y < xs.getD q 0) ∧ (-2000 ≤ xs.getD q 0 ∧ xs.getD q 0 ≤ 2000) ∧ (-2000 ≤ r0_MedianLevel xs ∧ r0_MedianLevel xs ≤ 2000) ∧ 0 ≤ y ∧ y ≤ 4000 := by
  subst hl
  by_cases ho : wgOk xs y
  · have e : r0_WrongGauges xs y = wgList (midOf xs) y xs xs.length := if_pos ho
    rw [e] at h ⊢
    obtain ⟨q, h1, h2, h3⟩ := wg_mem (mem_at h)
    have h0 : 0 < xs.length := by omega
    have em : r0_MedianLevel xs = midOf xs := if_pos ⟨ho.1, h0⟩
    rw [em]
    exact ⟨q, h1, h2, h3, ho.1.1 q h1, mid_bd ho.1 h0, ho.2.1, ho.2.2⟩
  · rw [show r0_WrongGauges xs y = [] from if_neg ho] at h
    simp at h
theorem mn_fact {xs : List Int} {m : Nat} (hv : LvOk m xs) (h0 : 0 < m) : mnNum m xs * (m : Int) = sumN xs m * mnDen m xs ∧ (mnNum m xs).natAbs ≤ 120000 ∧ 0 ≤ mnDen m xs ∧ mnDen m xs ≤ 60 ∧ (sumN xs m).natAbs ≤ 120000 := by
  rw [show mnNum m xs = fnum (sumN xs m) m from if_pos ⟨hv, h0⟩, show mnDen m xs = fden (sumN xs m) m from if_pos ⟨hv, h0⟩]
  obtain ⟨s1, s2⟩ := sumN_bd m xs hv m (Nat.le_refl _)
  have h60 := hv.2
  obtain ⟨a1, a2⟩ := mean_x (S := sumN xs m) (n := (m : Int)) (by omega)
  obtain ⟨d1, d2⟩ := fden_bd (sumN xs m) (m : Int) (by omega)
  have d3 : fden (sumN xs m) (m : Int) = (m : Int) / (fgcd (sumN xs m) (m : Int) : Int) := rfl
  refine ⟨a1, by omega, by omega, by omega, by omega⟩
/-- a level's text reads as the level, no other text is written -/
theorem lt_fact (t : Int) {res : Option Int} (h : ∀ n, res = some n ↔ isLv n ∧ levelT t = levelB n) : (res.isSome = true ∧ t = res.getD 0 ∧ levelT t ≠ ⟨#[]⟩) ∨ (res.isSome = false ∧ levelT t = ⟨#[]⟩) := by
  by_cases hv : -2000 ≤ t ∧ t ≤ 2000
  · have e : levelT t = levelB t := if_pos hv
    have hr : res = some t := (h t).2 ⟨hv, e⟩
    refine .inl ⟨by rw [hr]; rfl, by rw [hr]; rfl, ?_⟩
    rw [e]
    intro hx
    have := (levelB_sz t hv.1 hv.2).2
    rw [hx] at this
    exact absurd this (by decide)
  · have e : levelT t = ⟨#[]⟩ := if_neg hv
    refine .inr ⟨?_, e⟩
    cases hr : res with
    | none => rfl
    | some n =>
      obtain ⟨h1, h2⟩ := (h n).1 hr
      have := (levelB_sz n h1.1 h1.2).2
      rw [← h2, e] at this
      exact absurd this (by decide)
theorem levelT_sz (t : Int) : (levelT t).size ≤ 100 := by
  unfold levelT
  split
  · rename_i h; exact (levelB_sz t h.1 h.2).1
  · exact Nat.zero_le _

set_option maxRecDepth 100000 in
set_option maxHeartbeats 12800000 in
theorem law_FnLevels (A : Option Addr) (n c : Nat) (w : World) (h : ByR w A n) (hn : n ≤ 4096) (env : NumEnv w) (ml : Int) (hm : w.cell? ⟨1, 0, none⟩ = some (.int .i64 ml)) (hg : 1 < w.heap.size) :
    Calls Tryz.prog 3 #[.slice A n c] w fun e w' => e = .returned (.bool true) ∧ Below w.heap.size w w' := by
  have HE := Lib.hid env
  have HM := Lib.hid hm
  have HY := Lib.hid h
  have HG := Lib.hid hg
  clear h env hm hg
  go_enter Tryz.func3, Tryz.ntmps3
  go_wp2_with (go_at_call 4; refine (big_f _ _ _ _ hn).mono ?_; rintro e w' ⟨rfl, rfl⟩)
  refine (drawWrongGauges_t A n c _ HY.out (by omega)).mono ?_
  rintro e1 W1 ⟨LA, lc, m, xs, y, rfl, b1, x1, f1, hm, hy⟩
  have RL1 := Lib.hid x1.rd
  have HF := Lib.hid f1
  have HYY := Lib.hid hy
  have hl := x1.1
  clear x1 f1 hy
  have B1 : Below w.heap.size w W1 := b1
  have z1 := B1.size
  have D1 := Lib.hid (B1)
  clear B1 b1
  have MF := Lib.hid (md_fact hl)
  have WF := Lib.hid (fun j (hj : j < (r0_WrongGauges xs y).length) => wg_fact hl hj)
  have NF := Lib.hid (fun (hv : LvOk m xs) h0 => mn_fact hv h0)
  have ML := Lib.hid (fun (h0 : 0 < m) => mid_lo hl h0)
  have LN := Lib.hid (show (r0_WrongGauges xs y).length ≤ 1048576 from len_r0_WrongGauges xs y)
  clear hl
  go_wp2_with fail
  refine (implC_WrongGauges LA m lc xs y _ (by omega) RL1.out HF.out HYY.out).mono ?_
  rintro e2 W2 ⟨GA, gc, rfl, b2, x2⟩
  obtain ⟨G, hG⟩ : ∃ z, z = r0_WrongGauges xs y := ⟨_, rfl⟩
  obtain ⟨gcode, hgc⟩ : ∃ z, z = r1_WrongGauges xs y := ⟨_, rfl⟩
  rw [← hG] at x2 WF LN ⊢
  rw [← hgc]
  have HGE := Lib.hid hG
  have HGC := Lib.hid hgc
  have RG2 := Lib.hid x2.rd
  clear x2 hG hgc
  have B2 : Below W1.heap.size W1 W2 := b2
  have z2 := B2.size
  have D2 := Lib.hid (D1.out.trans (B2.mono D1.out.size))
  have RL2 := Lib.hid ((RL1.out.below B2).mono z2)
  clear D1 RL1 B2 b2
  go_wp2_with fail
  refine (specC_WrongGauges LA m lc xs y _ (by omega) RL2.out HF.out HYY.out).mono ?_
  rintro e3 W3 ⟨MA, mc, rfl, b3, x3⟩
  rw [← HGE.out] at x3 ⊢
  rw [← HGC.out]
  have RM3 := Lib.hid x3.rd
  clear x3
  have B3 : Below W2.heap.size W2 W3 := b3
  have z3 := B3.size
  have D3 := Lib.hid (D2.out.trans (B3.mono D2.out.size))
  have RL3 := Lib.hid ((RL2.out.below B3).mono z3)
  have RG3 := Lib.hid ((RG2.out.below B3).mono z3)
  clear D2 RL2 RG2 B3 b3
  go_wp2_with fail
  refine (implC_MedianLevel LA m lc xs _ (by omega) RL3.out HF.out).mono ?_
  rintro e4 W4 ⟨rfl, b4⟩
  obtain ⟨mid, hmid⟩ : ∃ z, z = r0_MedianLevel xs := ⟨_, rfl⟩
  obtain ⟨mcode, hmc⟩ : ∃ z, z = r1_MedianLevel xs := ⟨_, rfl⟩
  rw [← hmid] at MF WF ⊢
  rw [← hmc] at MF ⊢
  have HMI := Lib.hid hmid
  have HMC := Lib.hid hmc
  clear hmid hmc
  have B4 : Below W3.heap.size W3 W4 := b4
  have z4 := B4.size
  have D4 := Lib.hid (D3.out.trans (B4.mono D3.out.size))
  have RL4 := Lib.hid ((RL3.out.below B4).mono z4)
  have RG4 := Lib.hid ((RG3.out.below B4).mono z4)
  have RM4 := Lib.hid ((RM3.out.below B4).mono z4)
  clear D3 RL3 RG3 RM3 B4 b4
  go_wp2_with fail
  refine (specC_MedianLevel LA m lc xs _ (by omega) RL4.out HF.out).mono ?_
  rintro e5 W5 ⟨rfl, b5⟩
  rw [← HMI.out, ← HMC.out]
  have B5 : Below W4.heap.size W4 W5 := b5
  have z5 := B5.size
  have D5 := Lib.hid (D4.out.trans (B5.mono D4.out.size))
  have RL5 := Lib.hid ((RL4.out.below B5).mono z5)
  have RG5 := Lib.hid ((RG4.out.below B5).mono z5)
  have RM5 := Lib.hid ((RM4.out.below B5).mono z5)
  clear D4 RL4 RG4 RM4 B5 b5
  go_wp2_with fail
  refine (impl_mean LA m lc xs _ (by omega) RL5.out).mono ?_
  rintro e6 W6 ⟨rfl, b6⟩
  obtain ⟨pn, hpn⟩ : ∃ z, z = mnNum m xs := ⟨_, rfl⟩
  obtain ⟨pd, hpd⟩ : ∃ z, z = mnDen m xs := ⟨_, rfl⟩
  obtain ⟨mnc, hmnc⟩ : ∃ z, z = someC m xs := ⟨_, rfl⟩
  rw [← hpn] at NF ⊢
  rw [← hpd] at NF ⊢
  rw [← hmnc]
  have HPN := Lib.hid hpn
  have HPD := Lib.hid hpd
  have HNC := Lib.hid hmnc
  clear hpn hpd hmnc
  have B6 : Below W5.heap.size W5 W6 := b6
  have z6 := B6.size
  have D6 := Lib.hid (D5.out.trans (B6.mono D5.out.size))
  have RL6 := Lib.hid ((RL5.out.below B6).mono z6)
  have RG6 := Lib.hid ((RG5.out.below B6).mono z6)
  have RM6 := Lib.hid ((RM5.out.below B6).mono z6)
  clear D5 RL5 RG5 RM5 B6 b6
  go_wp2_with fail
  refine (spec_mean LA m lc xs _ (by omega) (rd_al RL6.out _)).mono ?_
  rintro e7 W7 ⟨rfl, b7⟩
  rw [← HPN.out, ← HPD.out, ← HNC.out]
  have B7 : Below W6.heap.size W6 W7 := ((Below.refl _ _).alloc (Nat.le_refl _) _).trans (b7.mono (by simp))
  have z7 := B7.size
  have D7 := Lib.hid (D6.out.trans (B7.mono D6.out.size))
  have RL7 := Lib.hid ((RL6.out.below B7).mono z7)
  have RG7 := Lib.hid ((RG6.out.below B7).mono z7)
  have RM7 := Lib.hid ((RM6.out.below B7).mono z7)
  obtain ⟨kk7, _⟩ := bcell b7
  have u0_7 : W7.cell? ⟨W6.heap.size, 0, none⟩ = some (.int .i64 pn) := by rw [kk7 _ _ (by simp)]; first | (simp; done) | go_simp
  have u1_7 : W7.cell? ⟨W6.heap.size, 1, none⟩ = some (.int .i64 pd) := by rw [kk7 _ _ (by simp)]; first | (simp; done) | go_simp
  have ul_7 : W6.heap.size < W7.heap.size := by have := b7.size; simp at this; omega
  clear D6 RL6 RG6 RM6 kk7 B7 b7
  go_wp2_with fail
  refine (implC LA m lc xs y _ (by omega) (rd_al RL7.out _)).mono ?_
  rintro e8 W8 ⟨RA, rm, rc, rfl, b8, x8⟩
  obtain ⟨V, hV⟩ : ∃ z, z = riV m xs y := ⟨_, rfl⟩
  obtain ⟨vc, hvc⟩ : ∃ z, z = riC m xs y := ⟨_, rfl⟩
  have hvl := riV_len m xs y
  rw [← hV] at x8 hvl
  rw [← hvc]
  have HV := Lib.hid hV
  have HVC := Lib.hid hvc
  have hrm : rm ≤ 60 := by have := x8.1; omega
  have RA8 := Lib.hid x8.rd
  have hx8 := x8.1
  clear x8 hV hvc hvl
  have B8 : Below W7.heap.size W7 W8 := ((Below.refl _ _).alloc (Nat.le_refl _) _).trans (b8.mono (by simp))
  have z8 := B8.size
  have D8 := Lib.hid (D7.out.trans (B8.mono D7.out.size))
  have RL8 := Lib.hid ((RL7.out.below B8).mono z8)
  have RG8 := Lib.hid ((RG7.out.below B8).mono z8)
  have RM8 := Lib.hid ((RM7.out.below B8).mono z8)
  have u0_8 := (B8.cell (p := ⟨W6.heap.size, 0, none⟩) ul_7).trans u0_7
  have u1_8 := (B8.cell (p := ⟨W6.heap.size, 1, none⟩) ul_7).trans u1_7
  have ul_8 : W6.heap.size < W8.heap.size := Nat.lt_of_lt_of_le ul_7 z8
  obtain ⟨kk8, _⟩ := bcell b8
  have v0_8 : W8.cell? ⟨W7.heap.size, 0, none⟩ = some (.int .i64 pn) := by rw [kk8 _ _ (by simp)]; first | (simp; done) | go_simp
  have v1_8 : W8.cell? ⟨W7.heap.size, 1, none⟩ = some (.int .i64 pd) := by rw [kk8 _ _ (by simp)]; first | (simp; done) | go_simp
  have vl_8 : W7.heap.size < W8.heap.size := by have := b8.size; simp at this; omega
  clear D7 RL7 RG7 RM7 u0_7 u1_7 ul_7 kk8 B8 b8
  go_wp2_with fail
  refine (specC LA m lc xs y _ (by omega) RL8.out).mono ?_
  rintro e9 W9 ⟨SA, sm, sc, rfl, b9, x9⟩
  rw [← HV.out] at x9
  rw [← HVC.out]
  obtain rfl : sm = rm := x9.1.symm.trans hx8
  have RS9 := Lib.hid x9.rd
  clear x9 hx8
  have B9 : Below W8.heap.size W8 W9 := b9
  have z9 := B9.size
  have D9 := Lib.hid (D8.out.trans (B9.mono D8.out.size))
  have RL9 := Lib.hid ((RL8.out.below B9).mono z9)
  have RG9 := Lib.hid ((RG8.out.below B9).mono z9)
  have RM9 := Lib.hid ((RM8.out.below B9).mono z9)
  have RA9 := Lib.hid ((RA8.out.below B9).mono z9)
  have u0_9 := (B9.cell (p := ⟨W6.heap.size, 0, none⟩) ul_8).trans u0_8
  have u1_9 := (B9.cell (p := ⟨W6.heap.size, 1, none⟩) ul_8).trans u1_8
  have ul_9 : W6.heap.size < W9.heap.size := Nat.lt_of_lt_of_le ul_8 z9
  have v0_9 := (B9.cell (p := ⟨W7.heap.size, 0, none⟩) vl_8).trans v0_8
  have v1_9 := (B9.cell (p := ⟨W7.heap.size, 1, none⟩) vl_8).trans v1_8
  have vl_9 : W7.heap.size < W9.heap.size := Nat.lt_of_lt_of_le vl_8 z9
  clear D8 RL8 RG8 RM8 RA8 u0_8 u1_8 ul_8 v0_8 v1_8 vl_8 B9 b9
  go_wp2_with fail
  refine (drawLevelOfGauge_t A n c _ (HY.out.below D9.out) (by omega)).mono ?_
  rintro e10 W10 ⟨zx, zy, rfl, b10, hzx, hzy⟩
  have B10 : Below W9.heap.size W9 W10 := b10
  have z10 := B10.size
  have D10 := Lib.hid (D9.out.trans (B10.mono D9.out.size))
  have RL10 := Lib.hid ((RL9.out.below B10).mono z10)
  have RG10 := Lib.hid ((RG9.out.below B10).mono z10)
  have RM10 := Lib.hid ((RM9.out.below B10).mono z10)
  have RA10 := Lib.hid ((RA9.out.below B10).mono z10)
  have RS10 := Lib.hid ((RS9.out.below B10).mono z10)
  have u0_10 := (B10.cell (p := ⟨W6.heap.size, 0, none⟩) ul_9).trans u0_9
  have u1_10 := (B10.cell (p := ⟨W6.heap.size, 1, none⟩) ul_9).trans u1_9
  have ul_10 : W6.heap.size < W10.heap.size := Nat.lt_of_lt_of_le ul_9 z10
  have v0_10 := (B10.cell (p := ⟨W7.heap.size, 0, none⟩) vl_9).trans v0_9
  have v1_10 := (B10.cell (p := ⟨W7.heap.size, 1, none⟩) vl_9).trans v1_9
  have vl_10 : W7.heap.size < W10.heap.size := Nat.lt_of_lt_of_le vl_9 z10
  clear D9 RL9 RG9 RM9 RA9 RS9 u0_9 u1_9 ul_9 v0_9 v1_9 vl_9 B10 b10
  clear hzx hzy
  go_wp2_with fail
  refine (gaI zx zy _).mono ?_
  rintro ea wa ⟨rfl, rfl⟩
  go_wp2_with fail
  refine (gaS zx zy _).mono ?_
  rintro eb wb ⟨rfl, rfl⟩
  generalize gaV zx zy = GV
  generalize gaC zx zy = GC
  go_wp2_with fail
  refine (drawLevelText_t A n c _ (HY.out.below D10.out) (by omega)).mono ?_
  rintro e11 W11 ⟨t, rfl, b11, htw⟩
  clear htw
  have B11 : Below W10.heap.size W10 W11 := b11
  have z11 := B11.size
  have D11 := Lib.hid (D10.out.trans (B11.mono D10.out.size))
  have RL11 := Lib.hid ((RL10.out.below B11).mono z11)
  have RG11 := Lib.hid ((RG10.out.below B11).mono z11)
  have RM11 := Lib.hid ((RM10.out.below B11).mono z11)
  have RA11 := Lib.hid ((RA10.out.below B11).mono z11)
  have RS11 := Lib.hid ((RS10.out.below B11).mono z11)
  have u0_11 := (B11.cell (p := ⟨W6.heap.size, 0, none⟩) ul_10).trans u0_10
  have u1_11 := (B11.cell (p := ⟨W6.heap.size, 1, none⟩) ul_10).trans u1_10
  have ul_11 : W6.heap.size < W11.heap.size := Nat.lt_of_lt_of_le ul_10 z11
  have v0_11 := (B11.cell (p := ⟨W7.heap.size, 0, none⟩) vl_10).trans v0_10
  have v1_11 := (B11.cell (p := ⟨W7.heap.size, 1, none⟩) vl_10).trans v1_10
  have vl_11 : W7.heap.size < W11.heap.size := Nat.lt_of_lt_of_le vl_10 z11
  clear D10 RL10 RG10 RM10 RA10 RS10 u0_10 u1_10 ul_10 v0_10 v1_10 vl_10 B11 b11
  go_wp2_with fail
  refine (level_impl t _).mono ?_
  rintro e12 W12 ⟨rfl, b12⟩
  obtain ⟨res, hres⟩ := lv_res (levelT t)
  have HLT := Lib.hid (lt_fact t hres)
  have hTs := levelT_sz t
  obtain ⟨T, hT⟩ : ∃ T : ByteArray, T = levelT t := ⟨_, rfl⟩
  rw [← hT] at hres HLT hTs ⊢
  have HR := Lib.hid hres
  have HT := Lib.hid hT
  clear hT hres
  have B12 : Below W11.heap.size W11 W12 := b12
  have z12 := B12.size
  have D12 := Lib.hid (D11.out.trans (B12.mono D11.out.size))
  have RL12 := Lib.hid ((RL11.out.below B12).mono z12)
  have RG12 := Lib.hid ((RG11.out.below B12).mono z12)
  have RM12 := Lib.hid ((RM11.out.below B12).mono z12)
  have RA12 := Lib.hid ((RA11.out.below B12).mono z12)
  have RS12 := Lib.hid ((RS11.out.below B12).mono z12)
  have u0_12 := (B12.cell (p := ⟨W6.heap.size, 0, none⟩) ul_11).trans u0_11
  have u1_12 := (B12.cell (p := ⟨W6.heap.size, 1, none⟩) ul_11).trans u1_11
  have ul_12 : W6.heap.size < W12.heap.size := Nat.lt_of_lt_of_le ul_11 z12
  have v0_12 := (B12.cell (p := ⟨W7.heap.size, 0, none⟩) vl_11).trans v0_11
  have v1_12 := (B12.cell (p := ⟨W7.heap.size, 1, none⟩) vl_11).trans v1_11
  have vl_12 : W7.heap.size < W12.heap.size := Nat.lt_of_lt_of_le vl_11 z12
  clear D11 RL11 RG11 RM11 RA11 RS11 u0_11 u1_11 ul_11 v0_11 v1_11 vl_11 B12 b12
  go_wp2_with fail
  refine (rl_impl T _ (by omega) (HE.out.below D12.out) ml ((D12.out.cell (p := ⟨1, 0, none⟩) HG.out).trans HM.out) res HR.out).mono ?_
  rintro e13 W13 ⟨rfl, b13⟩
  obtain ⟨gd, hgd⟩ : ∃ x, x = res.getD 0 := ⟨_, rfl⟩
  obtain ⟨is, his⟩ : ∃ x, x = res.isSome := ⟨_, rfl⟩
  rw [← hgd, ← his] at HLT ⊢
  clear hgd his HR
  have B13 : Below W12.heap.size W12 W13 := b13
  have z13 := B13.size
  have D13 := Lib.hid (D12.out.trans (B13.mono D12.out.size))
  have RL13 := Lib.hid ((RL12.out.below B13).mono z13)
  have RG13 := Lib.hid ((RG12.out.below B13).mono z13)
  have RM13 := Lib.hid ((RM12.out.below B13).mono z13)
  have RA13 := Lib.hid ((RA12.out.below B13).mono z13)
  have RS13 := Lib.hid ((RS12.out.below B13).mono z13)
  have u0_13 := (B13.cell (p := ⟨W6.heap.size, 0, none⟩) ul_12).trans u0_12
  have u1_13 := (B13.cell (p := ⟨W6.heap.size, 1, none⟩) ul_12).trans u1_12
  have ul_13 : W6.heap.size < W13.heap.size := Nat.lt_of_lt_of_le ul_12 z13
  have v0_13 := (B13.cell (p := ⟨W7.heap.size, 0, none⟩) vl_12).trans v0_12
  have v1_13 := (B13.cell (p := ⟨W7.heap.size, 1, none⟩) vl_12).trans v1_12
  have vl_13 : W7.heap.size < W13.heap.size := Nat.lt_of_lt_of_le vl_12 z13
  clear D12 RL12 RG12 RM12 RA12 RS12 u0_12 u1_12 ul_12 v0_12 v1_12 vl_12 B13 b13
  go_wp2_with fail
  refine (drawReadLevel_t A n c _ (HY.out.below D13.out) (by omega)).mono ?_
  rintro e14 W14 ⟨s, rfl, hs, b14⟩
  obtain ⟨res2, hres2⟩ := lv_res s
  have HR2 := Lib.hid hres2
  clear hres2
  have B14 : Below W13.heap.size W13 W14 := b14
  have z14 := B14.size
  have D14 := Lib.hid (D13.out.trans (B14.mono D13.out.size))
  have RL14 := Lib.hid ((RL13.out.below B14).mono z14)
  have RG14 := Lib.hid ((RG13.out.below B14).mono z14)
  have RM14 := Lib.hid ((RM13.out.below B14).mono z14)
  have RA14 := Lib.hid ((RA13.out.below B14).mono z14)
  have RS14 := Lib.hid ((RS13.out.below B14).mono z14)
  have u0_14 := (B14.cell (p := ⟨W6.heap.size, 0, none⟩) ul_13).trans u0_13
  have u1_14 := (B14.cell (p := ⟨W6.heap.size, 1, none⟩) ul_13).trans u1_13
  have ul_14 : W6.heap.size < W14.heap.size := Nat.lt_of_lt_of_le ul_13 z14
  have v0_14 := (B14.cell (p := ⟨W7.heap.size, 0, none⟩) vl_13).trans v0_13
  have v1_14 := (B14.cell (p := ⟨W7.heap.size, 1, none⟩) vl_13).trans v1_13
  have vl_14 : W7.heap.size < W14.heap.size := Nat.lt_of_lt_of_le vl_13 z14
  clear D13 RL13 RG13 RM13 RA13 RS13 u0_13 u1_13 ul_13 v0_13 v1_13 vl_13 B14 b14
  go_wp2_with fail
  refine (rl_impl s _ (by omega) (HE.out.below D14.out) ml ((D14.out.cell (p := ⟨1, 0, none⟩) HG.out).trans HM.out) res2 HR2.out).mono ?_
  rintro e15 W15 ⟨rfl, b15⟩
  obtain ⟨g2, hg2⟩ : ∃ x, x = res2.getD 0 := ⟨_, rfl⟩
  obtain ⟨i2, hi2⟩ : ∃ x, x = res2.isSome := ⟨_, rfl⟩
  have HG2 := Lib.hid hg2
  have HI2 := Lib.hid hi2
  rw [← hg2, ← hi2]
  clear hg2 hi2
  have B15 : Below W14.heap.size W14 W15 := b15
  have z15 := B15.size
  have D15 := Lib.hid (D14.out.trans (B15.mono D14.out.size))
  have RL15 := Lib.hid ((RL14.out.below B15).mono z15)
  have RG15 := Lib.hid ((RG14.out.below B15).mono z15)
  have RM15 := Lib.hid ((RM14.out.below B15).mono z15)
  have RA15 := Lib.hid ((RA14.out.below B15).mono z15)
  have RS15 := Lib.hid ((RS14.out.below B15).mono z15)
  have u0_15 := (B15.cell (p := ⟨W6.heap.size, 0, none⟩) ul_14).trans u0_14
  have u1_15 := (B15.cell (p := ⟨W6.heap.size, 1, none⟩) ul_14).trans u1_14
  have ul_15 : W6.heap.size < W15.heap.size := Nat.lt_of_lt_of_le ul_14 z15
  have v0_15 := (B15.cell (p := ⟨W7.heap.size, 0, none⟩) vl_14).trans v0_14
  have v1_15 := (B15.cell (p := ⟨W7.heap.size, 1, none⟩) vl_14).trans v1_14
  have vl_15 : W7.heap.size < W15.heap.size := Nat.lt_of_lt_of_le vl_14 z15
  clear D14 RL14 RG14 RM14 RA14 RS14 u0_14 u1_14 ul_14 v0_14 v1_14 vl_14 B15 b15
  go_wp2_with fail
  refine (rl_spec s _ (by omega) res2 HR2.out).mono ?_
  rintro e16 W16 ⟨rfl, b16⟩
  rw [← HG2.out, ← HI2.out]
  clear HG2 HI2 HR2 HE HM HG hs
  have B16 : Below W15.heap.size W15 W16 := b16
  have z16 := B16.size
  have D16 := Lib.hid (D15.out.trans (B16.mono D15.out.size))
  have RL16 := Lib.hid ((RL15.out.below B16).mono z16)
  have RG16 := Lib.hid ((RG15.out.below B16).mono z16)
  have RM16 := Lib.hid ((RM15.out.below B16).mono z16)
  have RA16 := Lib.hid ((RA15.out.below B16).mono z16)
  have RS16 := Lib.hid ((RS15.out.below B16).mono z16)
  have u0_16 := (B16.cell (p := ⟨W6.heap.size, 0, none⟩) ul_15).trans u0_15
  have u1_16 := (B16.cell (p := ⟨W6.heap.size, 1, none⟩) ul_15).trans u1_15
  have ul_16 : W6.heap.size < W16.heap.size := Nat.lt_of_lt_of_le ul_15 z16
  have v0_16 := (B16.cell (p := ⟨W7.heap.size, 0, none⟩) vl_15).trans v0_15
  have v1_16 := (B16.cell (p := ⟨W7.heap.size, 1, none⟩) vl_15).trans v1_15
  have vl_16 : W7.heap.size < W16.heap.size := Nat.lt_of_lt_of_le vl_15 z16
  clear D15 RL15 RG15 RM15 RA15 RS15 u0_15 u1_15 ul_15 v0_15 v1_15 vl_15 B16 b16
  go_wp2_with fail
  refine (f6ints_t GA MA G.length gc mc G _ (by have := LN.out; omega) RG16.out RM16.out).mono ?_
  rintro e17 W17 ⟨rfl, b17⟩
  have B17 : Below W16.heap.size W16 W17 := b17
  have z17 := B17.size
  have D17 := Lib.hid (D16.out.trans (B17.mono D16.out.size))
  have RL17 := Lib.hid ((RL16.out.below B17).mono z17)
  have RG17 := Lib.hid ((RG16.out.below B17).mono z17)
  have RM17 := Lib.hid ((RM16.out.below B17).mono z17)
  have RA17 := Lib.hid ((RA16.out.below B17).mono z17)
  have RS17 := Lib.hid ((RS16.out.below B17).mono z17)
  have u0_17 := (B17.cell (p := ⟨W6.heap.size, 0, none⟩) ul_16).trans u0_16
  have u1_17 := (B17.cell (p := ⟨W6.heap.size, 1, none⟩) ul_16).trans u1_16
  have ul_17 : W6.heap.size < W17.heap.size := Nat.lt_of_lt_of_le ul_16 z17
  have v0_17 := (B17.cell (p := ⟨W7.heap.size, 0, none⟩) vl_16).trans v0_16
  have v1_17 := (B17.cell (p := ⟨W7.heap.size, 1, none⟩) vl_16).trans v1_16
  have vl_17 : W7.heap.size < W17.heap.size := Nat.lt_of_lt_of_le vl_16 z17
  clear D16 RL16 RG16 RM16 RA16 RS16 u0_16 u1_16 ul_16 v0_16 v1_16 vl_16 B17 b17
  go_wp2_with fail
  refine (f6ints_t RA SA sm rc sc V _ (by omega) RA17.out RS17.out).mono ?_
  rintro e18 W18 ⟨rfl, b18⟩
  have B18 : Below W17.heap.size W17 W18 := b18
  have z18 := B18.size
  have D18 := Lib.hid (D17.out.trans (B18.mono D17.out.size))
  have RL18 := Lib.hid ((RL17.out.below B18).mono z18)
  have RM18 := Lib.hid ((RM17.out.below B18).mono z18)
  have u0_18 := (B18.cell (p := ⟨W6.heap.size, 0, none⟩) ul_17).trans u0_17
  have u1_18 := (B18.cell (p := ⟨W6.heap.size, 1, none⟩) ul_17).trans u1_17
  have ul_18 : W6.heap.size < W18.heap.size := Nat.lt_of_lt_of_le ul_17 z18
  have v0_18 := (B18.cell (p := ⟨W7.heap.size, 0, none⟩) vl_17).trans v0_17
  have v1_18 := (B18.cell (p := ⟨W7.heap.size, 1, none⟩) vl_17).trans v1_17
  have vl_18 : W7.heap.size < W18.heap.size := Nat.lt_of_lt_of_le vl_17 z18
  clear D17 RL17 RM17 u0_17 u1_17 ul_17 v0_17 v1_17 vl_17 B18 b18
  go_wp2_with fail
  refine (level_spec t _).mono ?_
  rintro e19 W19 ⟨rfl, b19⟩
  rw [← HT.out]
  clear HT
  have B19 : Below W18.heap.size W18 W19 := b19
  have z19 := B19.size
  have D19 := Lib.hid (D18.out.trans (B19.mono D18.out.size))
  have RL19 := Lib.hid ((RL18.out.below B19).mono z19)
  have RM19 := Lib.hid ((RM18.out.below B19).mono z19)
  have u0_19 := (B19.cell (p := ⟨W6.heap.size, 0, none⟩) ul_18).trans u0_18
  have u1_19 := (B19.cell (p := ⟨W6.heap.size, 1, none⟩) ul_18).trans u1_18
  have ul_19 : W6.heap.size < W19.heap.size := Nat.lt_of_lt_of_le ul_18 z19
  have v0_19 := (B19.cell (p := ⟨W7.heap.size, 0, none⟩) vl_18).trans v0_18
  have v1_19 := (B19.cell (p := ⟨W7.heap.size, 1, none⟩) vl_18).trans v1_18
  have vl_19 : W7.heap.size < W19.heap.size := Nat.lt_of_lt_of_le vl_18 z19
  clear D18 RL18 RM18 u0_18 u1_18 ul_18 v0_18 v1_18 vl_18 B19 b19
  have lvA := fun W => lvI_any t W
  have lvB := fun W => lvS_any t W
  generalize decide (-2000 ≤ t ∧ t ≤ 2000) = bt at lvA lvB
  have LVA := Lib.hid lvA
  have LVB := Lib.hid lvB
  clear lvA lvB
  have hcase := HLT.out
  clear HLT
  rcases hcase with ⟨rfl, rfl, hne⟩ | ⟨rfl, rfl⟩
  all_goals (try have hT3 : T.toList.isEmpty = false := isEmpty_f T (ne_size hne))
  all_goals (
    go_wp2_with fail
    refine (LVA.out _).mono ?_
    rintro ec wc ⟨rfl, rfl⟩
    go_wp2_with fail
    refine (LVB.out _).mono ?_
    rintro ed wd ⟨rfl, rfl⟩
    go_wp2_with fail
    refine (drawValidDay_t A n c _ (HY.out.below D19.out) (by omega)).mono ?_
    rintro e20 W20 ⟨dy, rfl, b20, hdy⟩
    have B20 : Below W19.heap.size W19 W20 := b20
    have z20 := B20.size
    have D20 := Lib.hid (D19.out.trans (B20.mono D19.out.size))
    have RL20 := Lib.hid ((RL19.out.below B20).mono z20)
    have RM20 := Lib.hid ((RM19.out.below B20).mono z20)
    have u0_20 := (B20.cell (p := ⟨W6.heap.size, 0, none⟩) ul_19).trans u0_19
    have u1_20 := (B20.cell (p := ⟨W6.heap.size, 1, none⟩) ul_19).trans u1_19
    have ul_20 : W6.heap.size < W20.heap.size := Nat.lt_of_lt_of_le ul_19 z20
    have v0_20 := (B20.cell (p := ⟨W7.heap.size, 0, none⟩) vl_19).trans v0_19
    have v1_20 := (B20.cell (p := ⟨W7.heap.size, 1, none⟩) vl_19).trans v1_19
    have vl_20 : W7.heap.size < W20.heap.size := Nat.lt_of_lt_of_le vl_19 z20
    clear D19 RL19 RM19 u0_19 u1_19 ul_19 v0_19 v1_19 vl_19 B20 b20
    clear hdy
    have dyA := fun W => dayI_any dy W
    have dyB := fun W => dayS_any dy W
    generalize decide (0 ≤ dy ∧ dy ≤ 100000) = bd at dyA dyB
    have DYA := Lib.hid dyA
    have DYB := Lib.hid dyB
    clear dyA dyB
    go_wp2_with fail
    refine (DYA.out _).mono ?_
    rintro ee we ⟨rfl, rfl⟩
    go_wp2_with fail
    refine (DYB.out _).mono ?_
    rintro ef wf ⟨rfl, rfl⟩
    clear LVA LVB DYA DYB HGE HGC HMI HMC HPN HPD HNC HV HVC HF HYY HY z1 z2 z3 z4 z5 z6 z7 z8 z9 z10 z11 z12 z13 z14 z15 z16 z17 z18 z19 z20
    have HC := Lib.hid (show ∀ j, j < G.length → ∃ q : Nat, q < m ∧ G.getD j 0 = (q : Int) ∧ (xs.getD q 0 < mid - y ∨ mid + y < xs.getD q 0) ∧ (-2000 ≤ xs.getD q 0 ∧ xs.getD q 0 ≤ 2000) ∧ (-2000 ≤ mid ∧ mid ≤ 2000) ∧ 0 ≤ y ∧ y ≤ 4000 from WF.out)
    clear WF
    by_cases hmc : mcode = 0
    · subst hmc
      obtain ⟨hv, h0, hmid⟩ := MF.out rfl
      obtain ⟨n1, n2, n3, n4, n5⟩ := NF.out hv h0
      obtain ⟨o1, o2⟩ := ML.out h0
      rw [← hmid] at o1 o2
      have HLV := Lib.hid hv
      clear MF NF ML hv hmid
      go_wp2
      go_loopw [37, 38, 39] (fun a b i wr => ∃ k : Nat, k ≤ m ∧ i = .int .i64 (k : Int) ∧ a = .int .i64 ((loN mid xs k : Nat) : Int) ∧ b = .int .i64 ((hiN mid xs k : Nat) : Int) ∧ Below W20.heap.size W20 wr) (fun _ _ i _ => m - (intOf i).toNat)
      case atStart => exact ⟨0, by omega, rfl, rfl, rfl, Below.refl _ _⟩
      case round =>
        obtain ⟨k, hk, rfl, rfl, rfl, hb⟩ := hrel
        have l1 := loN_le mid xs k
        have l2 := hiN_le mid xs k
        by_cases hlt : k < m
        · obtain ⟨lb, lo, rfl, hlb, hlcc⟩ := RL20.out.2 (by omega)
          have c2 := (hb.cell (p := ⟨lb, lo + k, none⟩) hlb).trans (hlcc k hlt)
          have u1 : loN mid xs (k + 1) = loN mid xs k + if xs.getD k 0 < mid then 1 else 0 := rfl
          have u2 : hiN mid xs (k + 1) = hiN mid xs k + if mid < xs.getD k 0 then 1 else 0 := rfl
          have U1 := Lib.hid u1
          have U2 := Lib.hid u2
          generalize xs.getD k 0 = x at c2 U1 U2
          generalize loN mid xs k = p at l1 U1 ⊢
          generalize hiN mid xs k = q at l2 U2 ⊢
          clear u1 u2 hlcc
          by_cases s1 : x < mid
          · have s2 : ¬ mid < x := by omega
            have v1 : loN mid xs (k + 1) = p + 1 := by rw [U1.out, if_pos s1]
            have v2 : hiN mid xs (k + 1) = q := by rw [U2.out, if_neg s2]; rfl
            have V1 := Lib.hid v1
            have V2 := Lib.hid v2
            clear v1 v2
            go_wp2
            go_roundw
            case rel => exact ⟨k + 1, by omega, by go_num, by rw [V1.out]; go_num, by rw [V2.out], hb⟩
            case measure => simp [intOf]; omega
          · by_cases s2 : mid < x
            · have v1 : loN mid xs (k + 1) = p := by rw [U1.out, if_neg s1]; rfl
              have v2 : hiN mid xs (k + 1) = q + 1 := by rw [U2.out, if_pos s2]
              have V1 := Lib.hid v1
              have V2 := Lib.hid v2
              clear v1 v2
              go_wp2
              go_roundw
              case rel => exact ⟨k + 1, by omega, by go_num, by rw [V1.out], by rw [V2.out]; go_num, hb⟩
              case measure => simp [intOf]; omega
            · have v1 : loN mid xs (k + 1) = p := by rw [U1.out, if_neg s1]; rfl
              have v2 : hiN mid xs (k + 1) = q := by rw [U2.out, if_neg s2]; rfl
              have V1 := Lib.hid v1
              have V2 := Lib.hid v2
              clear v1 v2
              go_wp2
              go_roundw
              case rel => exact ⟨k + 1, by omega, by go_num, by rw [V1.out], by rw [V2.out], hb⟩
              case measure => simp [intOf]; omega
        · obtain rfl : k = m := by omega
          have a0 := (hb.cell (p := ⟨W6.heap.size, 0, none⟩) ul_20).trans u0_20
          have a1 := (hb.cell (p := ⟨W6.heap.size, 1, none⟩) ul_20).trans u1_20
          have hzb := hb.size
          have RLb := Lib.hid ((RL20.out.below hb).mono hzb)
          have HSB := Lib.hid (show ∀ j, j < k → -3000 ≤ xs.getD j 0 ∧ xs.getD j 0 ≤ 3000 from fun j hj => by have := HLV.out.1 j hj; omega)
          have fs := fun W (hW : Rd W W.heap.size LA k xs) => f6sum_t LA k lc xs W (by omega) hW HSB.out
          generalize sumN xs k = S at n1 n5 fs
          have HFS := Lib.hid fs
          clear fs
          generalize loN mid xs k = p at l1 o1 ⊢
          generalize hiN mid xs k = q at l2 o2 ⊢
          have w1 := IntWalk.i64_in (2 * (p : Int)) (by omega)
          have w2 := IntWalk.i64_in (2 * (q : Int)) (by omega)
          have g1 : decide ((k : Int) ≤ 2 * (p : Int)) = false := decide_eq_false (by omega)
          have g9 : decide ((k : Int) < 2 * (q : Int)) = false := decide_eq_false (by omega)
          have hk60 := HLV.out.2
          have t1 : (pn * (k : Int)).natAbs ≤ 120000 * 60 := by rw [Int.natAbs_mul]; exact Nat.mul_le_mul n2 (by omega)
          have v1 := IntWalk.i64_in (pn * (k : Int)) (by omega)
          have v2 : IntKind.i64.wrap (S * pd) = S * pd := by rw [← n1]; exact v1
          have n6 : (pn * (k : Int) != S * pd) = false := by rw [n1]; simp
          clear t1
          go_wp2
          go_quiet ((go_at_call 29; exact Calls.quiet_of_same ((HFS.out _ (RLb.out.drewN _)).mono fun _ _ h => ⟨h.1, h.2.symm⟩)))
          go_wp2
          go_loopw [40, 41] (fun i _ wr => ∃ k : Nat, k ≤ G.length ∧ i = .int .i64 (k : Int) ∧ Below W20.heap.size W20 wr) (fun i _ _ => G.length - (intOf i).toNat)
          case atStart => exact ⟨0, by omega, rfl, below_drewN hb _⟩
          case round =>
            obtain ⟨k, hk, rfl, hb⟩ := hrel
            have hLN := LN.out
            by_cases hlt : k < G.length
            · obtain ⟨q, hq, e1, h1, ⟨h2, h3⟩, ⟨h4, h5⟩, h6, h7⟩ := HC.out k hlt
              obtain ⟨ab, ao, rfl, hab, hac⟩ := RM20.out.2 (by omega)
              obtain ⟨lb, lo, rfl, hlb, hlcc⟩ := RL20.out.2 (by omega)
              have c1 := (hb.cell (p := ⟨ab, ao + k, none⟩) hab).trans (hac k hlt)
              have c2 := (hb.cell (p := ⟨lb, lo + q, none⟩) hlb).trans (hlcc q hq)
              rw [e1] at c1
              generalize xs.getD q 0 = x at c2 h1 h2 h3
              clear hac hlcc e1
              by_cases hs : x - mid < -(x - mid)
              · have hf : decide (-(x - mid) ≤ y) = false := decide_eq_false (by omega)
                go_wp2
                exact ⟨⟨k + 1, by omega, by go_num, hb⟩, by simp [intOf]; omega⟩
              · have hf : decide (x - mid ≤ y) = false := decide_eq_false (by omega)
                have hs2 : -(x - mid) ≤ x - mid := by omega
                go_wp2
                exact ⟨⟨k + 1, by omega, by go_num, hb⟩, by simp [intOf]; omega⟩
            · obtain rfl : k = G.length := by omega
              go_wp2
              go_ret
              exact ⟨rfl, D20.out.trans (hb.mono D20.out.size)⟩
    · clear MF NF ML
      go_wp2
      go_loopw [40, 41] (fun i _ wr => ∃ k : Nat, k ≤ G.length ∧ i = .int .i64 (k : Int) ∧ Below W20.heap.size W20 wr) (fun i _ _ => G.length - (intOf i).toNat)
      case atStart => exact ⟨0, by omega, rfl, Below.refl _ _⟩
      case round =>
        obtain ⟨k, hk, rfl, hb⟩ := hrel
        have hLN := LN.out
        by_cases hlt : k < G.length
        · obtain ⟨q, hq, e1, h1, ⟨h2, h3⟩, ⟨h4, h5⟩, h6, h7⟩ := HC.out k hlt
          obtain ⟨ab, ao, rfl, hab, hac⟩ := RM20.out.2 (by omega)
          obtain ⟨lb, lo, rfl, hlb, hlcc⟩ := RL20.out.2 (by omega)
          have c1 := (hb.cell (p := ⟨ab, ao + k, none⟩) hab).trans (hac k hlt)
          have c2 := (hb.cell (p := ⟨lb, lo + q, none⟩) hlb).trans (hlcc q hq)
          rw [e1] at c1
          generalize xs.getD q 0 = x at c2 h1 h2 h3
          clear hac hlcc e1
          by_cases hs : x - mid < -(x - mid)
          · have hf : decide (-(x - mid) ≤ y) = false := decide_eq_false (by omega)
            go_wp2
            exact ⟨⟨k + 1, by omega, by go_num, hb⟩, by simp [intOf]; omega⟩
          · have hf : decide (x - mid ≤ y) = false := decide_eq_false (by omega)
            have hs2 : -(x - mid) ≤ x - mid := by omega
            go_wp2
            exact ⟨⟨k + 1, by omega, by go_num, hb⟩, by simp [intOf]; omega⟩
        · obtain rfl : k = G.length := by omega
          go_wp2
          go_ret
          exact ⟨rfl, D20.out.trans (hb.mono D20.out.size)⟩)

set_option maxRecDepth 100000 in
set_option maxHeartbeats 1000000 in
theorem walk_FnLevels (a0 : Option Addr) (la0 ca0 : Nat) (za0 : List Int) (w : World) (wa0 : IsRow .u8 w a0 la0 ca0 za0) (hL : laidMetH Tryz.prog Rows.fnLevelsRow.laid w) (hml : ∃ m, w.cell? ⟨1, 0, none⟩ = some (.int .i64 m)) :
    Calls Tryz.prog 3 #[.slice a0 la0 ca0] w fun e w' => e = .returned (.bool true) ∧ Below w.heap.size w w' := by
  rw [MakeChecks.laidMetH_plain _ _ _ (by kernel_rfl)] at hL
  have env : NumEnv w := ⟨pow_of_laid hL (.tail _ (.tail _ (.head _))),
    err_of_laid hL (.tail _ (.tail _ (.tail _ (.tail _ (.head _))))) (by kernel_rfl) (t := 84) (by kernel_rfl) Tryz.underlying84 ⟨_, _, rfl⟩,
    err_of_laid hL (.tail _ (.tail _ (.tail _ (.head _)))) (by kernel_rfl) (t := 84) (by kernel_rfl) Tryz.underlying84 ⟨_, _, rfl⟩⟩
  by_cases hn : la0 ≤ 4096
  case neg =>
    clear env hL
    go_enter Tryz.func3, Tryz.ntmps3
    go_wp2_with (go_at_call 4; refine (big_t _ _ _ _ hn).mono ?_; rintro e w' ⟨rfl, rfl⟩)
    go_ret
    exact ⟨rfl, Below.refl _ _⟩
  obtain ⟨ml, hm⟩ := hml
  exact law_FnLevels a0 la0 ca0 w wa0.by hn env ml hm (World.block_lt_of_cell? _ _ hm)

end Go.Proofs.YthfemghfkfmkdaaGreatDoor
