/- The cells that water reaches from a cell: l03Part of the model. -/
import Derived.Test.YthnioohiceohkaaPoolA
namespace Go.Proofs.Ythnioohiceohkaa
open Go.RowKit

/-- the first n bools of block g -/
def IsL (w : World) (g n : Nat) (M : Nat → Bool) : Prop := g < w.heap.size ∧ ∀ j, j < n → w.cell? ⟨g, j, none⟩ = some (.bool (M j)) ∧ w.frozen? ⟨g, j, none⟩ = false
theorem IsL.below {w w' : World} {B g n : Nat} {M : Nat → Bool} (h : IsL w g n M) (hb : Below B w w') (hg : g < B) : IsL w' g n M :=
  ⟨Nat.lt_of_lt_of_le h.1 hb.size, fun j hj => ⟨(hb.cell (p := ⟨g, j, none⟩) hg).trans (h.2 j hj).1, (hb.frozen (p := ⟨g, j, none⟩) hg).trans (h.2 j hj).2⟩⟩
theorem IsL.grown {w w' : World} {g n : Nat} {M : Nat → Bool} (h : IsL w g n M) {r : Option Nat} (hg : w.grownBy w' r) (hr : some g ≠ r) : IsL w' g n M :=
  ⟨Nat.lt_of_lt_of_le h.1 hg.size, fun j hj => ⟨(World.cell?_of_block (w := w) (a := ⟨g, j, none⟩) (hg.block g h.1 hr)).trans (h.2 j hj).1, (World.frozen?_of_block (w := w) (a := ⟨g, j, none⟩) (hg.block g h.1 hr)).trans (h.2 j hj).2⟩⟩
theorem IsL.set {w : World} {g n k : Nat} {M : Nat → Bool} (h : IsL w g n M) (hk : k < n) : IsL (w.setCell ⟨g, k, none⟩ (.bool true)) g n (fun j => M j || j == k) :=
  ⟨by simpa [World.setCell] using h.1, fun j hj => by
    obtain ⟨c1, c2⟩ := h.2 j hj
    refine ⟨?_, by simpa using c2⟩
    by_cases e : j = k
    · subst e
      rw [World.cell?_setCell_same w _ _ c1]; simp
    · have e' : (j == k) = false := by simpa using e
      rw [World.cell?_setCell_other w _ _ _ (fun h => e (by simpa using h.symm)), c1]; simp [e']⟩
theorem IsL.cnt {w : World} {g n : Nat} {M : Nat → Bool} (h : IsL w g n M) : cntW w g n = cnt M n := cnt_congr fun k hk => by rw [(h.2 k hk).1]; rfl
theorem IsL.congr {w : World} {g n : Nat} {M R : Nat → Bool} (h : IsL w g n M) (e : ∀ k, M k = R k) : IsL w g n R := by rw [← show M = R from funext e]; exact h
theorem LandAt.grown {w w' : World} {b : Nat} {r c : Int} {A : Option Addr} {n k : Nat} (h : LandAt w b r c A n k) {s : Option Nat} (hg : w.grownBy w' s) (hb : b < w.heap.size) (hs : some b ≠ s) : LandAt w' b r c A n k :=
  ⟨(World.cell?_of_block (w := w) (a := ⟨b, 0, none⟩) (hg.block b hb hs)).trans h.c0, (World.cell?_of_block (w := w) (a := ⟨b, 1, none⟩) (hg.block b hb hs)).trans h.c1, (World.cell?_of_block (w := w) (a := ⟨b, 2, none⟩) (hg.block b hb hs)).trans h.c2⟩
theorem gb_own {a b c : World} {s r : Option Nat} (h : a.grownBy b s) (k : b.grownBy c r) (hr : ∀ g, r = some g → a.heap.size ≤ g) : a.grownBy c s :=
  ⟨k.os.trans h.os, k.tape.trans h.tape, k.output.trans h.output, Nat.le_trans h.size k.size, fun i hi he => (k.block i (Nat.lt_of_lt_of_le hi h.size) (fun e => by have := hr i e.symm; omega)).trans (h.block i hi he)⟩
theorem drop_split {Ls : List Nat} {q : Nat} (h : q < Ls.length) : Ls.drop q = Ls[q] :: Ls.drop (q + 1) := List.drop_eq_getElem_cons h

set_option maxRecDepth 100000 in
set_option maxHeartbeats 6400000 in
theorem l03Part_t (b gs : Nat) (r c : Int) (A : Option Addr) (n k cs : Nat) (xs : List Int) (x : Nat) (lv : Int) (w : World) (hv : LandOk r c xs) (ha : Rd w w.heap.size A n xs) (hx : x < n) (hl : LandAt w b r c A n k) (hb : b < w.heap.size) (hgs : IsL w gs n fun _ => false) (hne : b ≠ gs) (hA : ∀ b0, ablk A = some b0 → b0 ≠ gs) :
    Calls Try.prog 69 #[.pointer (some ⟨b, 0, none⟩), .int .i64 lv, .int .i64 (x : Int), .slice (some ⟨gs, 0, none⟩) n cs] w fun e w' => (∃ j, e = .returned (.int .i64 j)) ∧ w.grownBy w' (some gs) ∧ IsL w' gs n (wetN r c lv xs n x) := by
  have hln := ha.1
  have hlen := hv.len
  have H := Lib.hid hv
  have HN := Lib.hid (show (n : Int) = r * c by rw [← hln]; exact hv.2.2.1)
  obtain ⟨b0, o0, rfl, hb0, hc0⟩ := ha.2 (by omega)
  have HC := Lib.hid hc0
  have n144 : n ≤ 144 := by omega
  have hb0s : b0 ≠ gs := hA b0 rfl
  have HL := Lib.hid hl
  have hg9 := hgs.1
  have hx1 := (hgs.2 x hx).1
  have hx2 := (hgs.2 x hx).2
  have HG := Lib.hid hgs
  clear hv ha hc0 hlen hl hA hgs
  go_enter Try.func69, Try.ntmps69
  go_wp2
  go_loopw [9, 10, 11, 12] (fun v i _ _ wr => ∃ (q : Nat) (Ls : List Nat) (M : Nat → Bool), i = .int .i64 (q : Int) ∧ q ≤ Ls.length ∧ wr.ownsRow w.heap.size 2 1 v Ls.length ((toV Ls).map (Value.int .i64)) ∧ Hid (Fill n (nbF r c lv xs n) x M (Ls.drop q)) ∧ IsL wr gs n M ∧ w.grownBy wr (some gs) ∧ Hid (Ls.length ≤ cnt M n)) (fun v i _ _ wr => 2 * (n - cntW wr gs n) + (slLen v - (intOf i).toNat))
  case atStart =>
    have hsz : (w.setCell ⟨gs, x, none⟩ (.bool true)).heap.size = w.heap.size := by simp [World.setCell]
    have g1 : w.grownBy ((w.setCell ⟨gs, x, none⟩ (.bool true)).alloc (.cells #[.int .i64 (x : Int)] 2)) (some gs) := (gb_setCell w ⟨gs, x, none⟩ (.bool true)).trans (gb_of_below ((Below.refl _ _).alloc (Nat.le_refl _) _) _)
    exact ⟨0, [x], fun j => j == x, rfl, by omega, owns_one_k hsz (by omega) (x : Int), Fill.start hx, ((HG.out.set hx).below ((Below.refl _ _).alloc (Nat.le_refl _) _) (by rw [hsz]; exact hg9)).congr fun j => by simp, g1, cnt_pos (S := fun j => j == x) hx (by simp)⟩
  case round =>
    obtain ⟨q, Ls, M, rfl, hq, hown, hF, hS, hg, hcn⟩ := hrel
    obtain ⟨wo, rfl⟩ : ∃ wo, wo = wr := ⟨_, rfl⟩
    have hgz := hg.size
    have hcl9 := cnt_le M n
    have hcn0 := hcn.out
    obtain ⟨B8, c8, rfl, hw8⟩ := own_wr hown
    by_cases hqL : q < Ls.length
    · obtain ⟨y, hyy⟩ : ∃ y, y = Ls[q] := ⟨_, rfl⟩
      have hsp := drop_split hqL
      rw [← hyy] at hsp
      have hF0 := hF.out
      rw [hsp] at hF0
      have hyn := (hF0.tl y (by simp)).1
      have hF1 := Lib.hid (hF0.enter (y := y) (T' := Ls.drop (q + 1)) (by simp) (fun a ha => List.mem_cons.1 ha) (fun a ha => List.mem_cons_of_mem _ ha))
      obtain ⟨b8, o8, rfl, h8a, h8b, h8c⟩ := hw8.2 (by omega)
      have c8a := (h8c q hqL).1
      rw [show (toV Ls).getD q 0 = (y : Int) by rw [hyy, List.getD_eq_getElem?_getD]; simp [toV, hqL]] at c8a
      have hat := HL.out.grown hg hb (by simpa using hne)
      have hnn := Lib.hid (near_nat H.out.1.1 H.out.2.1.1 (show 0 ≤ (y : Int) by omega) (show (y : Int) < (n : Int) by omega) HN.out)
      have hnl := near_len r c (y : Int)
      have hcl := Lib.hid (fun (z : Nat) (h : nbF r c lv xs n y z = true) => nbF_all z h)
      have hnb := Lib.hid (fun (q z : Nat) (hq : q < (near r c (y : Int)).length) (hz : (near r c (y : Int)).getD q 0 = (z : Int)) (hn : z < n) => nbF_at (lv := lv) (xs := xs) hyn hq hz hn)
      obtain ⟨ys, hys⟩ : ∃ ys, ys = near r c (y : Int) := ⟨_, rfl⟩
      rw [← hys] at hnn hnl hcl hnb
      have HY := Lib.hid hys.symm
      have hcz := hS.cnt
      have hLl : Ls.length ≤ 144 := by omega
      clear hF hF0 hys hyy hsp hw8 h8c
      go_wp2_with (go_at_call 60; refine (l03Near_t b r c _ n k _ _ (by omega) hat H.out.1 H.out.2.1 (by omega) (by omega) HN.out).mono ?_; rintro e1 W1 ⟨B, d, rfl, b1, x1⟩; rw [HY.out] at x1 ⊢; have s1 : wo.heap.size ≤ W1.heap.size := b1.size; have hg1 : w.grownBy W1 (some gs) := hg.trans (gb_of_below b1 _); have hS1 := hS.below b1 hS.1; have hown1 := owns_below hown b1)
      have xlt := x1.lt
      have hgr : ∀ g', (Value.slice (some ⟨b8, o8, none⟩) Ls.length c8).ownBlock = some g' → g' < wo.heap.size ∨ W1.heap.size ≤ g' := fun g' h => by
        injection h with h
        exact .inl (by subst h; exact h8b)
      have HK0 := Lib.hid (show 2 * (n - cnt M n) + Ls.length ≤ 2 * (n - cnt M n) + Ls.length ∧ Ls.length ≤ cnt M n ∧ q + 1 ≤ Ls.length from ⟨by omega, by omega, by omega⟩)
      clear b1 c8a hat
      go_loopw [9, 12] (fun v i wr2 => ∃ (p : Nat) (L2 : List Nat) (M2 : Nat → Bool), p ≤ ys.length ∧ i = .int .i64 (p : Int) ∧ wr2.ownsRow w.heap.size 2 1 v L2.length ((toV L2).map (Value.int .i64)) ∧ Hid (FillI n (nbF r c lv xs n) x M2 (L2.drop (q + 1)) y ((ys.take p).map Int.toNat)) ∧ IsL wr2 gs n M2 ∧ w.grownBy wr2 (some gs) ∧ W1.heap.size ≤ wr2.heap.size ∧ Wr wr2 wo.heap.size B ys.length ys ∧ Hid (∀ g', v.ownBlock = some g' → g' < wo.heap.size ∨ W1.heap.size ≤ g') ∧ Hid (2 * (n - cnt M2 n) + L2.length ≤ 2 * (n - cnt M n) + Ls.length ∧ L2.length ≤ cnt M2 n ∧ q + 1 ≤ L2.length)) (fun _ i _ => ys.length - (intOf i).toNat)
      case atStart => exact ⟨0, Ls, M, by omega, rfl, hown1, hF1.out, hS1, hg1, Nat.le_refl _, x1, hgr, HK0.out⟩
      case round =>
        clear hS1 hg1 x1 hgr HK0 hown1
        obtain ⟨p, L2, M2, hp, rfl, hown, hF, hS2, hg2, hz2, x2, hgr, HK2⟩ := hrel
        have hcl2 := cnt_le M2 n
        have hK2 := HK2.out
        by_cases hlt : p < ys.length
        · obtain ⟨bb, o, rfl, hbl, hbB, hc⟩ := x2.2 (by omega)
          have c1 := (hc p hlt).1
          clear hc
          obtain ⟨g1, g2⟩ := hnn.out p hlt
          obtain ⟨B9, c9, rfl, -⟩ := own_wr hown
          obtain ⟨z, hzz⟩ : ∃ z : Nat, ys.getD p 0 = (z : Int) := ⟨(ys.getD p 0).toNat, by omega⟩
          rw [hzz] at c1 g1 g2
          have hzn : z < n := by omega
          have NB := Lib.hid (hnb.out p z hlt hzz hzn)
          have MT := Lib.hid (map_take_succ hlt hzz)
          have c2 := (World.cell?_of_block (w := w) (a := ⟨b0, o0 + z, none⟩) (hg2.block b0 hb0 (by simpa using hb0s))).trans (HC.out z hzn)
          have c3 := (hS2.2 z hzn).1
          have c4 := (hS2.2 z hzn).2
          obtain ⟨y0, y1, y2⟩ := HL.out.grown hg2 hb (by simpa using hne)
          obtain ⟨xz, hxz⟩ : ∃ v, v = xs.getD z 0 := ⟨_, rfl⟩
          rw [← hxz] at c2 NB
          clear hzz hxz
          have hbf : bb < W1.heap.size := xlt (by omega) bb rfl
          have hnb2 : ¬ bb = gs := by omega
          cases hm2 : M2 z with
          | false =>
            rw [hm2] at c3
            have HM2 := Lib.hid hm2
            clear hm2
            by_cases hl : xz < lv
            · have hd : decide (xz < lv) = true := decide_eq_true hl
              go_wp2
              go_quiet (fail)
              have q1 : (wr.drewN nq).ownsRow w.heap.size 2 1 (.slice B9 L2.length c9) L2.length ((toV L2).map (Value.int .i64)) := hown
              have q2 : IsL (wr.drewN nq) gs n M2 := hS2
              have q3 : w.grownBy (wr.drewN nq) (some gs) := gb_drewN hg2 nq
              have q4 : W1.heap.size ≤ (wr.drewN nq).heap.size := hz2
              have q5 : Wr (wr.drewN nq) wo.heap.size (some ⟨bb, o, none⟩) ys.length ys := x2
              have q6 : (wr.drewN nq).cell? ⟨bb, o + p, none⟩ = some (.int .i64 (z : Int)) := c1
              have q7 : (wr.drewN nq).cell? ⟨gs, z, none⟩ = some (.bool false) := c3
              have q8 : (wr.drewN nq).frozen? ⟨gs, z, none⟩ = false := c4
              generalize wr.drewN nq = V at q1 q2 q3 q4 q5 q6 q7 q8 ⊢
              clear hown hS2 hg2 hz2 x2 c1 c2 c3 c4 y0 y1 y2
              have hsz : (V.setCell ⟨gs, z, none⟩ (.bool true)).heap.size = V.heap.size := by simp [World.setCell]
              have hn9 : ¬ gs = bb := fun e => hnb2 e.symm
              have hown9 := owns_setLow q1 (a := ⟨gs, z, none⟩) hg9 (.bool true)
              have hlv := q3.size
              go_wp2_with (at_builtin; (refine wplLies1 rfl _ _ rfl (V.setCell ⟨gs, z, none⟩ (.bool true)) V.heap.size hsz w.heap.size L2.length (.slice B9 L2.length c9) (toV L2) (z : Int) rfl hown9 rfl (by omega) (by omega) ?_); intro g3 cap3 w3 h31 h32 h33 h34)
              go_roundw
              case rel =>
                have hcs := cnt_set (S := M2) hzn HM2.out
                have hclz := cnt_le (fun k => M2 k || k == z) n
                have x3 : Wr w3 wo.heap.size (some ⟨bb, o, none⟩) ys.length ys := (((q5.grown (gb_setCell V ⟨gs, z, none⟩ (.bool true)) (fun _ e => hnb2 (by simpa [ablk] using e))).below ((Below.refl _ _).alloc (Nat.le_refl _) _)).grown h32 (fun _ e => by
                  rcases hgr.out bb (by rw [← e]; rfl) with h | h <;> omega))
                refine ⟨p + 1, L2 ++ [z], fun k => M2 k || k == z, by omega, by go_num, by rw [toV_snoc]; simpa using h31, ?_, ((q2.set hzn).below ((Below.refl _ _).alloc (Nat.le_refl _) _) (by rw [hsz]; exact q2.1)).grown h32 (owns_ne q1 hg9), ?_, ?_, x3, ?_, ?_⟩
                · rw [MT.out, List.drop_append_of_le_length (by omega)]
                  exact hF.out.take nbF_ltz hx (by rw [NB.out]; exact decide_eq_true hl)
                · exact gb_own ((q3.trans (gb_setCell V ⟨gs, z, none⟩ (.bool true))).trans (gb_of_below ((Below.refl _ _).alloc (Nat.le_refl _) _) _)) h32 fun g' hg' => (q1.lt g' hg').1
                · exact Nat.le_trans q4 (Nat.le_trans (show V.heap.size ≤ ((V.setCell ⟨gs, z, none⟩ (.bool true)).alloc (.cells #[.int .i64 (z : Int)] 2)).heap.size by simp [World.setCell]) h32.size)
                · intro g' hg'
                  obtain rfl : g3 = g' := by injection hg'
                  rcases h33 with h | h
                  · exact hgr.out g3 h
                  · right; omega
                · exact (show 2 * (n - cnt (fun k => M2 k || k == z) n) + (L2 ++ [z]).length ≤ 2 * (n - cnt M n) + Ls.length ∧ (L2 ++ [z]).length ≤ cnt (fun k => M2 k || k == z) n ∧ q + 1 ≤ (L2 ++ [z]).length by simp only [List.length_append, List.length_singleton]; omega)
              case measure => simp [intOf]; omega
            · have hd : decide (xz < lv) = false := decide_eq_false hl
              go_wp2
              go_quiet (fail)
              go_wp2
              go_roundw
              case rel => exact ⟨p + 1, L2, M2, by omega, by go_num, hown, by rw [MT.out]; exact hF.out.skip (fun h => by rw [NB.out] at h; have := of_decide_eq_true h; omega), hS2, gb_drewN hg2 _, hz2, x2, hgr.out, HK2.out⟩
              case measure => simp [intOf]; omega
          | true =>
            rw [hm2] at c3
            have HM2 := Lib.hid hm2
            clear hm2
            go_wp2
            go_quiet (fail)
            go_wp2
            go_roundw
            case rel => exact ⟨p + 1, L2, M2, by omega, by go_num, hown, by rw [MT.out]; exact hF.out.skip (fun _ => HM2.out), hS2, gb_drewN hg2 _, hz2, x2, hgr.out, HK2.out⟩
            case measure => simp [intOf]; omega
        · obtain rfl : p = ys.length := by omega
          have hcz2 := hS2.cnt
          obtain ⟨B9, c9, rfl, -⟩ := own_wr hown
          go_wp2
          go_roundw
          case rel => exact ⟨q + 1, L2, M2, by go_num, hK2.2.2, hown, hF.out.leave (fun z hz => by rw [List.take_length]; exact hcl.out z hz), hS2, hg2, hK2.2.1⟩
          case measure =>
            rw [hcz2, hcz]
            simp [slLen, intOf]
            omega
    · obtain rfl : q = Ls.length := by omega
      have hF2 := hF.out
      rw [List.drop_length] at hF2
      have HF := Lib.hid (hS.congr (hF2.done nbF_lt))
      clear hF2
      go_wp2
      go_ret
      exact ⟨⟨_, rfl⟩, hg, HF.out⟩

end Go.Proofs.Ythnioohiceohkaa
