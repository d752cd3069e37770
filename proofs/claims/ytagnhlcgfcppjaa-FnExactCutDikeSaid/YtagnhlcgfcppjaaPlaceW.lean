/- Dikes: the place with a metre. -/
import Derived.Test.YtagnhlcgfcppjaaPlaces
import Derived.StillTailTactics
namespace Go.Proofs.Ytagnhlcgfcppjaa
open Go.RowKit

set_option maxRecDepth 100000 in
set_option maxHeartbeats 1600000 in
theorem placeCl_t (B1 B2 pb n d h : Nat) (hi : Int) (xs : List RSection) (m : Int) (w : World) (e : hi = (h : Int)) (hh : h < n) (hn : n ≤ 30) (hk : DkOk n xs) (c1 : w.cell? ⟨B1, 0, none⟩ = some (.slice (some ⟨pb, 0, none⟩) n d)) (c2 : w.cell? ⟨B2, 0, none⟩ = some (.int .i64 m)) (hp : PlRow w pb 0 n xs) (l1 : B1 < w.heap.size) (l2 : B2 < w.heap.size) (lp : pb < w.heap.size) (v : Bool) (hv : v = decide (m < lenN xs (h + 1))) :
    Calls Try.prog 87 #[.int .i64 hi, .pointer (some ⟨B1, 0, none⟩), .pointer (some ⟨B2, 0, none⟩)] w fun e w' => e = .returned (.bool v) ∧ Below w.heap.size w w' := by
  subst e
  obtain ⟨p0, p1, p2⟩ := hp h hh
  simp only [Nat.zero_add] at p0 p1 p2
  obtain ⟨u1, u2⟩ := lenN_bd hk h (by omega)
  have hd := hk.1 h hh
  have HS := Lib.hid (show lenN xs (h + 1) = lenN xs h + (xs.getD h zSection).f0 from rfl)
  have HV := Lib.hid hv
  clear hp hk hv
  obtain ⟨x, hx⟩ := getZs xs h
  rw [← hx] at p0 p1 HS hd
  clear hx
  obtain ⟨x0, x1⟩ := x
  obtain ⟨d0, d1, _, _⟩ := hd
  simp only at p0 p1 HS d0 d1
  obtain ⟨s, hs2⟩ : ∃ s, s = lenN xs h := ⟨_, rfl⟩
  rw [← hs2] at u1 u2 HS p2
  clear hs2
  have HW := Lib.hid (show wrap64 (s + x0) = lenN xs (h + 1) by rw [HS.out]; exact IntWalk.wrap64_in _ (by omega))
  go_enter Try.func87, Try.ntmps87
  go_wp2_with fail
  go_region_held3 (fun w' => w'.cell? ⟨B1, 0, none⟩ = some (.slice (some ⟨pb, 0, none⟩) n d) ∧ w'.cell? ⟨B2, 0, none⟩ = some (.int .i64 m) ∧ w'.cell? ⟨pb, h * 3, none⟩ = some (.int .i64 x0) ∧ w'.cell? ⟨pb, h * 3 + 1, none⟩ = some (.int .i64 x1) ∧ w'.cell? ⟨pb, h * 3 + 2, none⟩ = some (.int .i64 s)) (go_keep)
    (first | (go_at_call 74; refine (end_t _ _ _ _ _ HW.out).mono ?_; rintro e1 W1 ⟨rfl, b1⟩; have z1 : W1.cell? ⟨B1, 0, none⟩ = _ := (b1.cell (p := ⟨B1, 0, none⟩) l1).trans c1; have z2 : W1.cell? ⟨B2, 0, none⟩ = _ := (b1.cell (p := ⟨B2, 0, none⟩) l2).trans c2; have y0 : W1.cell? ⟨pb, h * 3, none⟩ = _ := (b1.cell (p := ⟨pb, h * 3, none⟩) lp).trans p0; have y1 : W1.cell? ⟨pb, h * 3 + 1, none⟩ = _ := (b1.cell (p := ⟨pb, h * 3 + 1, none⟩) lp).trans p1; have y2 : W1.cell? ⟨pb, h * 3 + 2, none⟩ = _ := (b1.cell (p := ⟨pb, h * 3 + 2, none⟩) lp).trans p2; have k1 : Below w.heap.size w W1 := (by repeat (first | assumption | exact Below.refl _ _ | (refine Below.trans ?_ (b1.mono (by first | omega | (simp; done) | (simp; omega)))) | (refine Below.setCell ?_ (by first | omega | (simp; done) | (simp; omega)) _) | apply below_drewN | apply Below.drew | (refine Below.alloc ?_ (by first | omega | (simp; done) | (simp; omega)) _)))))
  go_wp2
  go_ret
  exact ⟨ret_bool HV.out.symm, k1⟩

theorem sec_of {xs : List RSection} {n p : Nat} {m : Int} (_h : DkOk n xs) (h0 : 0 ≤ m) (h1 : m < lenN xs n) (hp : p ≤ n) (h2 : ∀ k, k < p → ¬ m < lenN xs (k + 1)) (h3 : p < n → m < lenN xs (p + 1)) : IsSec xs n m p := by
  have hlt : p < n := by
    rcases Nat.lt_or_ge p n with c | c
    · exact c
    · obtain ⟨q, rfl⟩ : ∃ q, n = q + 1 := ⟨n - 1, by have := _h.2.1; omega⟩
      exact absurd h1 (h2 q (by omega))
  refine ⟨hlt, ?_, h3 hlt⟩
  cases p with
  | zero => exact h0
  | succ q => have := h2 q (by omega); omega
theorem lenN_mono {xs : List RSection} {n i j : Nat} (h : DkOk n xs) (hij : i ≤ j) (hj : j ≤ n) : lenN xs i ≤ lenN xs j := by
  rcases Nat.lt_or_ge i j with c | c
  · have := lenN_lt h c hj; omega
  · rw [show i = j by omega]; exact Int.le_refl _

set_option maxRecDepth 100000 in
set_option maxHeartbeats 3200000 in
theorem placeWith_t (A : Option Addr) (n c : Nat) (xs : List RSection) (m : Int) (w : World) (hn : n ≤ 1048576) (ha : Rd_Section w w.heap.size A n xs) (h : DkOk n xs) (h0 : 0 ≤ m) (h1 : m < lenN xs n) (k : Nat) (hk : k = secF xs m n) :
    Calls Try.prog 60 #[.slice A n c, .int .i64 m] w fun e w' => e = .returned (.tuple #[.int .i64 (k : Int), .agg #[.int .i64 (xs.getD k zSection).f0, .int .i64 (xs.getD k zSection).f1, .int .i64 (lenN xs k)]]) ∧ Below w.heap.size w w' := by
  have HA := Lib.hid ha
  have HV := Lib.hid h
  have HK := Lib.hid (show IsSec xs n m k from hk ▸ secF_is h h0 h1)
  have H1 := Lib.hid h1
  have h30 := h.2.2
  clear ha h hk h1
  go_enter Try.func60, Try.ntmps60
  go_wp2_with (first | (go_at_call 85; refine (places_t _ _ _ xs _ hn ((HA.out.below (by repeat (first | assumption | exact Below.refl _ _ | (refine Below.setCell ?_ (by first | omega | (simp; done) | (simp; omega)) _) | apply below_drewN | apply Below.drew | (refine Below.alloc ?_ (by first | omega | (simp; done) | (simp; omega)) _)))).mono (by first | omega | (simp; done) | (simp; omega))) HV.out).mono ?_; rintro e1 W1 ⟨pb, pd, rfl, b1, hp0, hp1, PR⟩; have s1 : w.heap.size + 1 < W1.heap.size := (by have := b1.size; simp at this; omega); obtain ⟨k1, f1⟩ := bcell b1; have z0 : W1.cell? ⟨w.heap.size, 0, none⟩ = some (.int .i64 m) := (by rw [k1 _ _ (by first | omega | (simp; done) | (simp; omega))]; first | (simp; done) | go_simp); have y0 : W1.cell? ⟨w.heap.size + 1, 0, none⟩ = some (.int .i64 0) := (by rw [k1 _ _ (by first | omega | (simp; done) | (simp; omega))]; first | (simp; done) | go_simp); have yf0 : W1.frozen? ⟨w.heap.size + 1, 0, none⟩ = false := (by rw [f1 _ _ (by first | omega | (simp; done) | (simp; omega))]; first | (simp; done) | go_simp); have y1 : W1.cell? ⟨w.heap.size + 1, 1, none⟩ = some (.int .i64 0) := (by rw [k1 _ _ (by first | omega | (simp; done) | (simp; omega))]; first | (simp; done) | go_simp); have yf1 : W1.frozen? ⟨w.heap.size + 1, 1, none⟩ = false := (by rw [f1 _ _ (by first | omega | (simp; done) | (simp; omega))]; first | (simp; done) | go_simp); have y2 : W1.cell? ⟨w.heap.size + 1, 2, none⟩ = some (.int .i64 0) := (by rw [k1 _ _ (by first | omega | (simp; done) | (simp; omega))]; first | (simp; done) | go_simp); have yf2 : W1.frozen? ⟨w.heap.size + 1, 2, none⟩ = false := (by rw [f1 _ _ (by first | omega | (simp; done) | (simp; omega))]; first | (simp; done) | go_simp); clear k1 f1; have d1 : Below w.heap.size w W1 := (by repeat (first | assumption | exact Below.refl _ _ | (refine Below.trans ?_ (b1.mono (by first | omega | (simp; done) | (simp; omega)))) | (refine Below.setCell ?_ (by first | omega | (simp; done) | (simp; omega)) _) | apply below_drewN | apply Below.drew | (refine Below.alloc ?_ (by first | omega | (simp; done) | (simp; omega)) _)))))
  have hcl : ∀ (i : Int) (j : Nat) (W : World) (v : Bool), i = (j : Int) → j < n → Below (W1.alloc (.cells #[.slice (some ⟨pb, 0, none⟩) n pd] 94)).heap.size (W1.alloc (.cells #[.slice (some ⟨pb, 0, none⟩) n pd] 94)) W → v = decide (m < lenN xs (j + 1)) → Calls Try.prog 87 #[.int .i64 i, .pointer (some ⟨W1.heap.size, 0, none⟩), .pointer (some ⟨w.heap.size, 0, none⟩)] W fun e w' => e = .returned (.bool v) ∧ Below W.heap.size W w' := by
    intro i j W v hi hj hb hv
    have t1 : W.cell? ⟨W1.heap.size, 0, none⟩ = some (.slice (some ⟨pb, 0, none⟩) n pd) := (hb.cell (p := ⟨W1.heap.size, 0, none⟩) (by simp)).trans (by simp)
    have t2 : W.cell? ⟨w.heap.size, 0, none⟩ = some (.int .i64 m) := (hb.cell (p := ⟨w.heap.size, 0, none⟩) (show w.heap.size < _ by simp; omega)).trans ((((Below.refl W1.heap.size W1).alloc (Nat.le_refl _) _).cell (p := ⟨w.heap.size, 0, none⟩) (show w.heap.size < W1.heap.size by omega)).trans z0)
    have hsz := hb.size
    simp at hsz
    exact placeCl_t _ _ pb n pd j i xs m W hi hj h30 HV.out t1 t2 (PR.below (B := W1.heap.size) (((Below.refl _ _).alloc (Nat.le_refl _) _).trans (hb.mono (by simp))) hp1) (by omega) (by omega) (by omega) v hv
  go_wp2_with fail
  refine (srch_pl (.pointer (some ⟨W1.heap.size, 0, none⟩)) (.pointer (some ⟨w.heap.size, 0, none⟩)) n (fun j => m < lenN xs (j + 1)) (fun a b hab hb hpa => by have := lenN_mono HV.out (show a + 1 ≤ b + 1 by omega) (by omega); omega) _ hn hcl).mono ?_
  rintro e2 W2 ⟨p, rfl, b2, q0, q1, q2⟩
  obtain rfl : p = k := IsSec.uniq HV.out (sec_of HV.out h0 H1.out q0 q1 q2) HK.out
  have hlt := HK.out.1
  have t1 : W2.cell? ⟨W1.heap.size, 0, none⟩ = some (.slice (some ⟨pb, 0, none⟩) n pd) := (b2.cell (p := ⟨W1.heap.size, 0, none⟩) (by simp)).trans (by simp)
  have bb : Below W1.heap.size W1 W2 := ((Below.refl W1.heap.size W1).alloc (Nat.le_refl _) _).trans (b2.mono (by simp))
  have hz2 := bb.size
  have hz3 : W1.heap.size < W2.heap.size := by have := b2.size; simp at this; omega
  obtain ⟨r0, r1, r2⟩ := PR.below bb hp1 p hlt
  simp only [Nat.zero_add] at r0 r1 r2
  have v0 : W2.cell? ⟨w.heap.size + 1, 0, none⟩ = _ := (bb.cell (p := ⟨w.heap.size + 1, 0, none⟩) s1).trans y0
  have v1 : W2.cell? ⟨w.heap.size + 1, 1, none⟩ = _ := (bb.cell (p := ⟨w.heap.size + 1, 1, none⟩) s1).trans y1
  have v2 : W2.cell? ⟨w.heap.size + 1, 2, none⟩ = _ := (bb.cell (p := ⟨w.heap.size + 1, 2, none⟩) s1).trans y2
  have vf0 : W2.frozen? ⟨w.heap.size + 1, 0, none⟩ = _ := (bb.frozen (p := ⟨w.heap.size + 1, 0, none⟩) s1).trans yf0
  have vf1 : W2.frozen? ⟨w.heap.size + 1, 1, none⟩ = _ := (bb.frozen (p := ⟨w.heap.size + 1, 1, none⟩) s1).trans yf1
  have vf2 : W2.frozen? ⟨w.heap.size + 1, 2, none⟩ = _ := (bb.frozen (p := ⟨w.heap.size + 1, 2, none⟩) s1).trans yf2
  have d2 : Below w.heap.size w W2 := d1.trans (bb.mono (by omega))
  clear y0 y1 y2 yf0 yf1 yf2 z0 q1 q2 HK H1 b2 bb PR
  obtain ⟨s, hs⟩ : ∃ s, s = lenN xs p := ⟨_, rfl⟩
  obtain ⟨x, hx⟩ := getZs xs p
  rw [← hs] at r2
  rw [← hx] at r0 r1
  have HS := Lib.hid hs
  have HX := Lib.hid hx
  clear hs hx
  obtain ⟨x0, x1⟩ := x
  simp only at r0 r1 r2
  go_wp2
  go_still_tail 6, (by kernel_rfl)
  change wpList _ _ _ _ _ W2.drew
  go_wp2
  exact bodyPost_ret (v := .tuple #[.int .i64 (p : Int), .agg #[.int .i64 x0, .int .i64 x1, .int .i64 s]]) (by simp [results, Try.results60, go_sem, v0, v1, v2]) rfl ⟨by rw [← HX.out, ← HS.out], (by repeat (first | assumption | exact Below.refl _ _ | (refine Below.trans ?_ (d2.mono (by first | omega | (simp; done) | (simp; omega)))) | (refine Below.setCell ?_ (by first | omega | (simp; done) | (simp; omega)) _) | apply below_drewN | apply Below.drew | (refine Below.alloc ?_ (by first | omega | (simp; done) | (simp; omega)) _)))⟩

end Go.Proofs.Ytagnhlcgfcppjaa
