/- The cells that water reaches from a cell: poolWith of the program. -/
import Derived.Test.YthnioohiceohkaaPoolA
namespace Go.Proofs.Ythnioohiceohkaa
open Go.RowKit

set_option maxRecDepth 100000 in
set_option maxHeartbeats 6400000 in
theorem poolWith_t (r c : Int) (A : Option Addr) (n k : Nat) (xs : List Int) (x : Nat) (lv : Int) (w : World) (hv : LandOk r c xs) (ha : Rd w w.heap.size A n xs) (hx : x < n) (R : Array Value) (hR : R = bcs (wetN r c lv xs n x)) :
    Calls Try.prog 101 #[.agg #[.int .i64 r, .int .i64 c, .slice A n k], .int .i64 (x : Int), .int .i64 lv] w fun e w' => e = .returned (.agg R) ∧ Below w.heap.size w w' := by
  have hln := ha.1
  have hlen := hv.len
  have H := Lib.hid hv
  have HN := Lib.hid (show (n : Int) = r * c by rw [← hln]; exact hv.2.2.1)
  have HR := Lib.hid hR
  obtain ⟨b0, o0, rfl, hb0, hc0⟩ := ha.2 (by omega)
  have HC := Lib.hid hc0
  have n144 : n ≤ 144 := by omega
  clear hv ha hc0 hR hlen
  obtain ⟨hz9, hi9⟩ := zero_of_info (P := Try.prog) (t := 66) (v := .agg (bcs fun _ => false)) (n := 144) (by kernel_rfl)
  have hx144 : x < 144 := by omega
  have hb9 : (bcs fun _ => false)[x]? = some (.bool false) := bcs_at hx144
  go_enter Try.func101, Try.ntmps101
  go_wp2
  go_loopw [8, 9, 11] (fun v _ _ wr => ∃ (ts : List Nat) (M : Nat → Bool), wr.ownsRow (w.heap.size + 3) 2 1 v ts.length ((toV ts).map (Value.int .i64)) ∧ Hid (Fill n (nbF r c lv xs n) x M ts) ∧ IsB wr (w.heap.size + 1 + 1) M ∧ IsB wr (w.heap.size + 1) (fun _ => false) ∧ LandAt wr w.heap.size r c (some ⟨b0, o0, none⟩) n k ∧ Below w.heap.size w wr ∧ w.heap.size + 3 ≤ wr.heap.size ∧ Hid (ts.length ≤ cnt M n)) (fun v _ _ wr => 2 * (n - cntW wr (w.heap.size + 1 + 1) n) + slLen v)
  case atStart =>
    have e9 : (bcs fun _ => false).setIfInBounds x (.bool true) = bcs fun j => j == x := by rw [bcs_set hx144]; exact bcs_congr fun j => by simp
    rw [e9]
    have i1 : IsB ((w.alloc (.cells #[.int .i64 r, .int .i64 c, .slice (some ⟨b0, o0, none⟩) n k] 28)).alloc (.cells (bcs fun _ => false) 66)) (w.heap.size + 1) (fun _ => false) := by
      have := IsB.new (w.alloc (.cells #[.int .i64 r, .int .i64 c, .slice (some ⟨b0, o0, none⟩) n k] 28)) (fun _ => false)
      simpa using this
    have i2 : IsB (((w.alloc (.cells #[.int .i64 r, .int .i64 c, .slice (some ⟨b0, o0, none⟩) n k] 28)).alloc (.cells (bcs fun _ => false) 66)).alloc (.cells (bcs fun j => j == x) 66)) (w.heap.size + 1 + 1) (fun j => j == x) := by
      have := IsB.new ((w.alloc (.cells #[.int .i64 r, .int .i64 c, .slice (some ⟨b0, o0, none⟩) n k] 28)).alloc (.cells (bcs fun _ => false) 66)) (fun j => j == x)
      simpa using this
    exact ⟨[x], fun j => j == x, owns_one_k (by simp) (by omega) (x : Int), Fill.start hx, i2.alloc _, (i1.alloc _).alloc _, LandAt.below (B := w.heap.size + 1) (w := w.alloc (.cells #[.int .i64 r, .int .i64 c, .slice (some ⟨b0, o0, none⟩) n k] 28)) ⟨by simp, by simp, by simp⟩ (by repeat (first | assumption | exact Below.refl _ _ | (refine Below.setCell ?_ (by first | omega | (simp; done) | (simp; omega)) _) | apply below_drewN | apply Below.drew | (refine Below.alloc ?_ (by first | omega | (simp; done) | (simp; omega)) _))) (by omega), (by repeat (first | assumption | exact Below.refl _ _ | (refine Below.setCell ?_ (by first | omega | (simp; done) | (simp; omega)) _) | apply below_drewN | apply Below.drew | (refine Below.alloc ?_ (by first | omega | (simp; done) | (simp; omega)) _))), by simp, cnt_pos (S := fun j => j == x) hx (by simp)⟩
  case round =>
    obtain ⟨ts, M, hown, hF, hB, hB0, hat, hb, hz, hcn⟩ := hrel
    obtain ⟨wo, rfl⟩ : ∃ wo, wo = wr := ⟨_, rfl⟩
    rcases List.eq_nil_or_concat ts with rfl | ⟨T', y, rfl⟩
    · obtain ⟨B, d, rfl, -⟩ := own_wr hown
      have hM := Lib.hid (show bcs M = R by rw [HR.out]; exact bcs_congr (hF.out.done nbF_lt))
      have hfin := (hB0.setRow M)
      have hbf := below_setRowB hb (show w.heap.size ≤ w.heap.size + 1 by omega) (bcs M)
      have l4 := hB0.storeCells (R := M)
      go_wp2_with fail
      refine wp_load_row 66 (.tmp 7) rfl _ rfl _ _ _ _ hB Try.underlying66 rfl (by rw [bcs_size]; exact cs_info) ?_
      go_wp2
      refine bodyPost_ret (v := .agg R) ?_ rfl ⟨rfl, hbf⟩
      rw [← hM.out]
      exact results_cell_row Try.results101 _ _ _ _ _ _ _ rfl hfin Try.underlying66 rfl (by rw [bcs_size]; exact cs_info)
    · obtain ⟨g, cap, rfl, hcp, hcm, hg0, hg1, hcy, hpop⟩ := owns_pop (m := T'.length) (x := .int .i64 (y : Int)) (xs := (toV T').map (Value.int .i64)) (by
        have h := hown
        rw [show (List.concat T' y) = T' ++ [y] from List.concat_eq_append, toV_snoc, List.map_append, List.length_append] at h
        exact h)
      rw [show (List.concat T' y) = T' ++ [y] from List.concat_eq_append] at hF
      have hlT : (List.concat T' y).length = T'.length + 1 := by simp
      have hcn1 : T'.length + 1 ≤ cnt M n := by have := hcn.out; omega
      have hcl9 := cnt_le M n
      have hyn := (hF.out.tl y (by simp)).1
      obtain ⟨m, hm⟩ : ∃ m, m = T'.length := ⟨_, rfl⟩
      obtain ⟨kk, hkk⟩ : ∃ kk, kk = m + 1 := ⟨_, rfl⟩
      have hk1 : (kk : Int) - 1 = (m : Int) := by omega
      have hk2 : m < kk := by omega
      have hk3 : 0 < kk := by omega
      have hk4 : ¬ cap = 0 := by omega
      have hk5 : m ≤ cap := by omega
      have hcm' : cap ≤ 9223372036854775807 := by simp only [maxLen] at hcm; omega
      have i1 := IntWalk.i64_in (m : Int) (by omega)
      have hmu0 : slLen (Value.slice (some ⟨g, 0, none⟩) (T'.length + 1) cap) = kk := by rw [hkk, hm]; rfl
      rw [← hm] at hcp hcy hpop hmu0
      rw [← hkk] at hcp hmu0
      have hcz := hB.cnt (n := n) n144
      have hF1 := Lib.hid (hF.out.enter (y := y) (T' := T') (by simp) (fun a ha => by
        rcases List.mem_append.1 ha with h | h
        · exact .inr h
        · exact .inl (by simpa using h)) (fun a ha => List.mem_append.2 (.inl ha)))
      have hnn := Lib.hid (near_nat H.out.1.1 H.out.2.1.1 (show 0 ≤ (y : Int) by omega) (show (y : Int) < (n : Int) by omega) HN.out)
      have hnl := near_len r c (y : Int)
      have hcl := Lib.hid (fun (z : Nat) (h : nbF r c lv xs n y z = true) => nbF_all z h)
      have hnb := Lib.hid (fun (q z : Nat) (hq : q < (near r c (y : Int)).length) (hz : (near r c (y : Int)).getD q 0 = (z : Int)) (hn : z < n) => nbF_at (lv := lv) (xs := xs) hyn hq hz hn)
      obtain ⟨ys, hys⟩ : ∃ ys, ys = near r c (y : Int) := ⟨_, rfl⟩
      rw [← hys] at hnn hnl hcl hnb
      have HY := Lib.hid hys.symm
      have HM := Lib.hid hm
      have HK := Lib.hid hkk
      rw [show T'.length + 1 = kk by omega]
      clear hF hys hown hlT hm hkk
      have hat' := hat
      obtain ⟨y0, y1, y2⟩ := hat'
      go_wp2_with (go_at_call 71; refine (nextTo_t r c _ n k _ _ H.out.1 H.out.2.1 (by omega) (by omega) HN.out).mono ?_; rintro e1 W1 ⟨B, d, rfl, b1, x1⟩; rw [HY.out] at x1 ⊢; have s1 : wo.heap.size ≤ W1.heap.size := b1.size; have d1 : Below w.heap.size w W1 := (by repeat (first | assumption | exact Below.refl _ _ | (refine Below.trans ?_ (b1.mono (by first | omega | (simp; done) | (simp; omega)))) | (refine Below.trans ?_ (hb.mono (by first | omega | (simp; done) | (simp; omega)))) | (refine Below.setCell ?_ (by first | omega | (simp; done) | (simp; omega)) _) | apply below_drewN | apply Below.drew | (refine Below.alloc ?_ (by first | omega | (simp; done) | (simp; omega)) _))); have hB1 := hB.below b1 hB.lt; have hB01 := hB0.below b1 hB0.lt; have hat1 := hat.below b1 (by omega); have hpop1 := owns_below hpop b1)
      have xlt := x1.lt
      have hgr : ∀ g', (Value.slice (some ⟨g, 0, none⟩) m cap).ownBlock = some g' → g' < wo.heap.size ∨ W1.heap.size ≤ g' := fun g' h => by
        injection h with h
        exact .inl (by subst h; exact hg1)
      have HK0 := Lib.hid (show 2 * (n - cnt M n) + T'.length + 1 ≤ 2 * (n - cnt M n) + kk ∧ T'.length ≤ cnt M n from ⟨by have := HM.out; have := HK.out; omega, by omega⟩)
      have hown0 : W1.ownsRow (w.heap.size + 3) 2 1 (.slice (some ⟨g, 0, none⟩) m cap) T'.length ((toV T').map (Value.int .i64)) := by rw [← HM.out]; exact hpop1
      clear hpop hpop1 b1 hcy y0 y1 y2
      go_loopw [8, 11, 34] (fun v _ i wr2 => ∃ (q : Nat) (ts2 : List Nat) (M2 : Nat → Bool), q ≤ ys.length ∧ i = .int .i64 (q : Int) ∧ wr2.ownsRow (w.heap.size + 3) 2 1 v ts2.length ((toV ts2).map (Value.int .i64)) ∧ Hid (FillI n (nbF r c lv xs n) x M2 ts2 y ((ys.take q).map Int.toNat)) ∧ IsB wr2 (w.heap.size + 1 + 1) M2 ∧ IsB wr2 (w.heap.size + 1) (fun _ => false) ∧ LandAt wr2 w.heap.size r c (some ⟨b0, o0, none⟩) n k ∧ Below w.heap.size w wr2 ∧ W1.heap.size ≤ wr2.heap.size ∧ Wr wr2 wo.heap.size B ys.length ys ∧ Hid (∀ g', v.ownBlock = some g' → g' < wo.heap.size ∨ W1.heap.size ≤ g') ∧ Hid (2 * (n - cnt M2 n) + ts2.length + 1 ≤ 2 * (n - cnt M n) + kk ∧ ts2.length ≤ cnt M2 n)) (fun _ _ i _ => ys.length - (intOf i).toNat)
      case atStart =>
        exact ⟨0, T', M, by omega, rfl, hown0, hF1.out, hB1, hB01, hat1, d1, Nat.le_refl _, x1, hgr, HK0.out⟩
      case round =>
        clear hB1 hB01 hat1 d1 x1 hgr HK0 hown0
        obtain ⟨q, ts2, M2, hq, rfl, hown, hF, hB2, hB02, hat2, hb2, hz2, x2, hgr, HK2⟩ := hrel
        by_cases hlt : q < ys.length
        · obtain ⟨bb, o, rfl, hbl, hbB, hc⟩ := x2.2 (by omega)
          have c1 := (hc q hlt).1
          clear hc
          obtain ⟨g1, g2⟩ := hnn.out q hlt
          obtain ⟨B8, c8, rfl, -⟩ := own_wr hown
          have htl : ts2.length ≤ 144 := by have := HK2.out.2; have := cnt_le M2 n; omega
          obtain ⟨z, hzz⟩ : ∃ z : Nat, ys.getD q 0 = (z : Int) := ⟨(ys.getD q 0).toNat, by omega⟩
          rw [hzz] at c1 g1 g2
          have hzn : z < n := by omega
          have NB := Lib.hid (hnb.out q z hlt hzz hzn)
          have MT := Lib.hid (map_take_succ hlt hzz)
          have c2 := (hb2.cell (p := ⟨b0, o0 + z, none⟩) hb0).trans (HC.out z hzn)
          have c3 := hB2.cell (k := z) (by omega)
          have c4 := hB2.fz z
          have hz144 : z < 144 := by omega
          obtain ⟨y0, y1, y2⟩ := id hat2
          obtain ⟨xz, hxz⟩ : ∃ v, v = xs.getD z 0 := ⟨_, rfl⟩
          rw [← hxz] at c2 NB
          clear hzz hxz
          have hbf : bb < W1.heap.size := xlt (by omega) bb rfl
          have hne : ¬ bb = w.heap.size + 1 + 1 := by omega
          by_cases hl : xz < lv
          · cases hm2 : M2 z with
            | false =>
              rw [hm2] at c3
              have HM2 := Lib.hid hm2
              have hsz : (wr.setCell ⟨w.heap.size + 1 + 1, z, none⟩ (.bool true)).heap.size = wr.heap.size := by simp [World.setCell]
              clear hm2
              go_wp2_with (at_builtin; (refine wplLies1 rfl _ _ rfl (wr.setCell ⟨w.heap.size + 1 + 1, z, none⟩ (.bool true)) wr.heap.size hsz (w.heap.size + 3) ts2.length (.slice B8 ts2.length c8) (toV ts2) (z : Int) rfl (owns_setLow hown (show w.heap.size + 1 + 1 < w.heap.size + 3 by omega) _) rfl (by omega) (by omega) ?_); intro g3 cap3 w3 h31 h32 h33 h34)
              go_roundw
              case rel =>
                have hb3 : Below (w.heap.size + 2) wr w3 := (((Below.refl (w.heap.size + 2) wr).setCell (by simp) (.bool true)).alloc (by rw [hsz]; omega) _).grown h32 (by simp [World.setCell]; omega) fun k hk => by have := (hown.lt k hk).1; omega
                have x3 : Wr w3 wo.heap.size (some ⟨bb, o, none⟩) ys.length ys := (((x2.grown (gb_setCell wr ⟨w.heap.size + 1 + 1, z, none⟩ (.bool true)) (fun _ e => hne (by simpa [ablk] using e))).below ((Below.refl _ _).alloc (Nat.le_refl _) _)).grown h32 (fun _ e => by
                  rcases hgr.out bb (by rw [← e]; rfl) with h | h <;> omega))
                have hcs := cnt_set (S := M2) hzn HM2.out
                have hcl := cnt_le (fun k => M2 k || k == z) n
                have hK := HK2.out
                refine ⟨q + 1, ts2 ++ [z], fun k => M2 k || k == z, by omega, by go_num, by rw [toV_snoc]; simpa using h31, ?_, ((hB2.set hz144).alloc _).grown h32 (owns_ne hown (by omega)), ((hB02.other (by simp) _).alloc _).grown h32 (owns_ne hown (by omega)), hat2.below hb3 (by omega), hb2.trans (hb3.mono (by omega)), Nat.le_trans hz2 hb3.size, x3, ?_, ?_⟩
                · rw [MT.out]
                  exact hF.out.take nbF_ltz hx (by rw [NB.out]; exact decide_eq_true hl)
                · intro g' hg'
                  obtain rfl : g3 = g' := by injection hg'
                  rcases h33 with h | h
                  · exact hgr.out g3 h
                  · right; omega
                · exact (show 2 * (n - cnt (fun k => M2 k || k == z) n) + (ts2 ++ [z]).length + 1 ≤ 2 * (n - cnt M n) + kk ∧ (ts2 ++ [z]).length ≤ cnt (fun k => M2 k || k == z) n by simp only [List.length_append, List.length_singleton]; omega)
              case measure => simp [intOf]; omega
            | true =>
              rw [hm2] at c3
              have HM2 := Lib.hid hm2
              clear hm2
              go_wp2
              go_roundw
              case rel => exact ⟨q + 1, ts2, M2, by omega, by go_num, hown, by rw [MT.out]; exact hF.out.skip (fun _ => HM2.out), hB2, hB02, hat2, hb2, hz2, x2, hgr.out, HK2.out⟩
              case measure => simp [intOf]; omega
          · go_wp2
            go_roundw
            case rel => exact ⟨q + 1, ts2, M2, by omega, by go_num, hown, by rw [MT.out]; exact hF.out.skip (fun h => by rw [NB.out] at h; exact absurd (of_decide_eq_true h) hl), hB2, hB02, hat2, hb2, hz2, x2, hgr.out, HK2.out⟩
            case measure => simp [intOf]; omega
        · obtain rfl : q = ys.length := by omega
          have hcz2 := hB2.cnt (n := n) n144
          have hcl2 := cnt_le M2 n
          obtain ⟨B8, c8, rfl, -⟩ := own_wr hown
          go_wp2
          go_roundw
          case rel => exact ⟨ts2, M2, hown, hF.out.leave (fun z hz => by rw [List.take_length]; exact hcl.out z hz), hB2, hB02, hat2, hb2, by omega, HK2.out.2⟩
          case measure =>
            rw [hcz2, hcz]
            have := HK2.out
            simp [slLen]
            omega

end Go.Proofs.Ythnioohiceohkaa
