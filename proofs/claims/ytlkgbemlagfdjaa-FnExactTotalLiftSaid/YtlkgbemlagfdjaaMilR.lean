/- What mills and stages lift: of the model and of the program. -/
import Derived.Test.YtlkgbemlagfdjaaMilV
import Derived.Test.YtlkgbemlagfdjaaSumE
import Derived.Test.YtlkgbemlagfdjaaOwnS
import Derived.Test.YtlkgbemlagfdjaaIx
namespace Go.Proofs.Ytlkgbemlagfdjaa
open Go.RowKit

def rtK (f : Int) (xs : List RMill) (k : Nat) : Int := mlR (xs.getD k zMill).f1 (xs.getD k zMill).f2 (xs.getD k zMill).f3 f
/-- what the first k mills lift, one by one -/
def rtL (f : Int) (xs : List RMill) : Nat → List Int
  | 0 => []
  | k + 1 => rtL f xs k ++ [rtK f xs k]
theorem rtL_len (f : Int) (xs : List RMill) (k : Nat) : (rtL f xs k).length = k := by
  induction k with
  | zero => rfl
  | succ k ih => simp [rtL, ih]
theorem rtL_at (f : Int) (xs : List RMill) (n j : Nat) (hj : j < n) : (rtL f xs n).getD j 0 = rtK f xs j := by
  induction n with
  | zero => omega
  | succ n ih =>
    simp only [rtL, List.getD_eq_getElem?_getD]
    by_cases e : j = n
    · subst e
      rw [List.getElem?_append_right (by rw [rtL_len]; omega), rtL_len]
      simp
    · rw [List.getElem?_append_left (by rw [rtL_len]; omega), ← List.getD_eq_getElem?_getD]
      exact ih (by omega)
/-- .. together -/
def smK (f : Int) (xs : List RMill) : Nat → Int
  | 0 => 0
  | k + 1 => smK f xs k + rtK f xs k
theorem sum_rtL (f : Int) (xs : List RMill) (n : Nat) : ∀ k, k ≤ n → sumN (rtL f xs n) k = smK f xs k := by
  intro k
  induction k with
  | zero => intro _; rfl
  | succ k ih => intro h; simp only [sumN, smK]; rw [ih (by omega), rtL_at f xs n k (by omega)]
def smR (f : Int) (xs : List RMill) : Int := smK f xs xs.length
theorem rtK_bd {xs : List RMill} (h : rowOk xs) (f : Int) (k : Nat) (hk : k < xs.length) : 0 ≤ rtK f xs k ∧ rtK f xs k ≤ 10000 := mlR_bd (h.1 k hk) f
theorem smK_bd {xs : List RMill} (h : rowOk xs) (f : Int) (k : Nat) (hk : k ≤ xs.length) : 0 ≤ smK f xs k ∧ smK f xs k ≤ 10000 * (k : Int) := by
  induction k with
  | zero => simp [smK]
  | succ k ih =>
    have h1 := ih (by omega)
    have h2 := rtK_bd h f k (by omega)
    simp only [smK]
    omega
theorem smR_bd {xs : List RMill} (h : rowOk xs) (f : Int) : 0 ≤ smR f xs ∧ smR f xs ≤ 80000 := by
  have h1 := smK_bd h f xs.length (Nat.le_refl _)
  have h2 := h.2.2
  unfold smR
  omega
/-- what the first k stages lift -/
def smL (f : Int) (xss : List (List RMill)) : Nat → List Int
  | 0 => []
  | k + 1 => smL f xss k ++ [smR f (mGet xss k)]
theorem smL_len (f : Int) (xss : List (List RMill)) (k : Nat) : (smL f xss k).length = k := by
  induction k with
  | zero => rfl
  | succ k ih => simp [smL, ih]
theorem smL_at (f : Int) (xss : List (List RMill)) (n j : Nat) (hj : j < n) : (smL f xss n).getD j 0 = smR f (mGet xss j) := by
  induction n with
  | zero => omega
  | succ n ih =>
    simp only [smL, List.getD_eq_getElem?_getD]
    by_cases e : j = n
    · subst e
      rw [List.getElem?_append_right (by rw [smL_len]; omega), smL_len]
      simp
    · rw [List.getElem?_append_left (by rw [smL_len]; omega), ← List.getD_eq_getElem?_getD]
      exact ih (by omega)
theorem Half.below {n b o : Nat} {f : Nat → Int} {xs : List Int} {k B : Nat} {w w' : World} (h : Half n b o f xs k w) (hb : Below B w w') (hB : b < B) : Half n b o f xs k w' := fun j hj => by
  obtain ⟨h1, h2⟩ := h j hj
  exact ⟨(hb.cell (p := ⟨b, o + j, none⟩) hB).trans h1, (hb.frozen (p := ⟨b, o + j, none⟩) hB).trans h2⟩

set_option maxHeartbeats 800000 in
theorem l10Code_t (A : Option Addr) (n c : Nat) (xss : List (List RMill)) (f : Int) (w : World) (hn : totSS xss ≤ 1048576) (ha : Rd_MillSS w w.heap.size A n xss) (C : Int) (hC : sc4 (stOk n xss) (fcOk f) = C) :
    Calls Try.prog 66 #[.slice A n c, .int .i64 f] w fun e w' => e = .returned (.int .i64 C) ∧ Below w.heap.size w w' := by
  have HA := Lib.hid ha
  clear ha
  by_cases h : stOk n xss
  · have HV := Lib.hid (show true = decide (stOk n xss) from (decide_eq_true h).symm)
    by_cases hf : fcOk f
    · have HF := Lib.hid (show true = decide (fcOk f) from (decide_eq_true hf).symm)
      obtain rfl : C = 0 := by rw [← hC]; exact sc4_ok h hf
      clear h hf hC
      go_enter Try.func66, Try.ntmps66
      go_wp2_with (first | (go_at_call 59; refine (l10All_any _ _ _ xss _ hn HA.out _ HV.out).mono ?_; rintro e1 w1 ⟨rfl, b1⟩) | (go_at_call 53; refine (fcS_any _ _ _ HF.out).mono ?_; rintro e2 w2 ⟨rfl, rfl⟩))
      go_ret
      exact ⟨rfl, b1⟩
    · have HF := Lib.hid (show false = decide (fcOk f) from (decide_eq_false hf).symm)
      obtain rfl : C = 2 := by rw [← hC]; exact sc4_no h hf
      clear h hf hC
      go_enter Try.func66, Try.ntmps66
      go_wp2_with (first | (go_at_call 59; refine (l10All_any _ _ _ xss _ hn HA.out _ HV.out).mono ?_; rintro e1 w1 ⟨rfl, b1⟩) | (go_at_call 53; refine (fcS_any _ _ _ HF.out).mono ?_; rintro e2 w2 ⟨rfl, rfl⟩))
      go_ret
      exact ⟨rfl, b1⟩
  · have HV := Lib.hid (show false = decide (stOk n xss) from (decide_eq_false h).symm)
    obtain rfl : C = 1 := by rw [← hC]; exact sc4_bad h
    clear h hC
    go_enter Try.func66, Try.ntmps66
    go_wp2_with (first | (go_at_call 59; refine (l10All_any _ _ _ xss _ hn HA.out _ HV.out).mono ?_; rintro e1 w1 ⟨rfl, b1⟩))
    go_ret
    exact ⟨rfl, b1⟩

theorem stagesCode_t (A : Option Addr) (n c : Nat) (xss : List (List RMill)) (r : Bool) (p : Prop) [Decidable p] (w : World) (hn : totSS xss ≤ 1048576) (ha : Rd_MillSS w w.heap.size A n xss) (hr : r = decide p) (C : Int) (hC : sc4 (stOk n xss) p = C) :
    Calls Try.prog 68 #[.slice A n c, .bool r] w fun e w' => e = .returned (.int .i64 C) ∧ Below w.heap.size w w' := by
  have HA := Lib.hid ha
  obtain ⟨v, hv⟩ : ∃ v, v = decide (stOk n xss) := ⟨_, rfl⟩
  have HV := Lib.hid hv
  have HK := Lib.hid (show C = if v then (if r then 0 else 2) else 1 by rw [← hC, hv, hr]; unfold sc4; simp)
  clear ha hv hr hC
  go_enter Try.func68, Try.ntmps68
  go_wp2_with (first | (go_at_call 23; refine (validStages_any _ _ _ xss _ hn HA.out v HV.out).mono ?_; rintro e1 w1 ⟨rfl, b1⟩) | (go_at_call 55; refine (cf4 v r _ C HK.out).mono ?_; rintro e2 w2 ⟨rfl, rfl⟩))
  go_ret
  exact ⟨rfl, b1⟩

set_option maxRecDepth 100000 in
set_option maxHeartbeats 1600000 in
theorem l10Sums_t (A : Option Addr) (n c : Nat) (xss : List (List RMill)) (f : Int) (w : World) (ha : Rd_MillSS w w.heap.size A n xss) (hs : stOk n xss) (hf : fcOk f) (L : List Int) (hL : L = smL f xss n) :
    Calls Try.prog 67 #[.slice A n c, .int .i64 f] w fun e w' => ∃ B d, e = .returned (.slice B n d) ∧ Below w.heap.size w w' ∧ Wr w' w.heap.size B n L := by
  have HA := Lib.hid ha
  have HS := Lib.hid hs
  have HL := Lib.hid hL
  have HF := Lib.hid hf
  have hn4 := hs.2.2
  clear ha hs hL hf
  go_enter Try.func67, Try.ntmps67
  go_wp2
  go_loopw [5, 6, 7, 8] (fun v i _ _ wr => ∃ k : Nat, k ≤ n ∧ i = .int .i64 (k : Int) ∧ Below w.heap.size w wr ∧ wr.ownsRow w.heap.size 2 1 v k ((smL f xss k).map (Value.int .i64))) (fun _ i _ _ _ => n - (intOf i).toNat)
  case atStart => exact ⟨0, by omega, rfl, (Below.refl _ _).alloc (Nat.le_refl _) _, owns_made rfl (Nat.le_refl _)⟩
  case round =>
    obtain ⟨k, hk, rfl, hb, hown⟩ := hrel
    obtain ⟨wo, rfl⟩ : ∃ wo, wo = wr := ⟨_, rfl⟩
    have hz := hb.size
    by_cases hlt : k < n
    · obtain ⟨b, off, rfl, hB, hc⟩ := HA.out.2 (by omega)
      obtain ⟨A', c', h1, h3⟩ := hc k hlt
      have c1 := (hb.cell (p := ⟨b, off + k, none⟩) hB).trans h1
      have R1 := Lib.hid (h3.below hb)
      have HR := Lib.hid (HS.out.1 k hlt)
      have h8 := HR.out.2.2
      have HE := Lib.hid (show smL f xss (k + 1) = smL f xss k ++ [smR f (mGet xss k)] from rfl)
      have HN := Lib.hid h1
      clear hc h1 h3
      obtain ⟨xs, hx⟩ : ∃ xs, xs = mGet xss k := ⟨_, rfl⟩
      rw [← hx] at c1 R1 HR HE HN h8
      obtain ⟨l, hl9⟩ : ∃ l, l = xs.length := ⟨_, rfl⟩
      have HL9 := Lib.hid hl9
      rw [← hl9] at c1 R1 HN h8
      clear hx hl9
      go_wp2
      go_loopw [7, 8] (fun s i wr2 => ∃ q : Nat, q ≤ l ∧ i = .int .i64 (q : Int) ∧ s = .int .i64 (smK f xs q) ∧ Below wo.heap.size wo wr2) (fun _ i _ => l - (intOf i).toNat)
      case atStart => exact ⟨0, by omega, rfl, rfl, Below.refl _ _⟩
      case round =>
        obtain ⟨q, hq, rfl, rfl, hb2⟩ := hrel
        have hz2 := hb2.size
        have hBo : b < wo.heap.size := by omega
        have c2 := (hb2.cell (p := ⟨b, off + k, none⟩) hBo).trans c1
        by_cases hlq : q < l
        · obtain ⟨ab, o, rfl, hbB, hc⟩ := ((R1.out.below (hb2.mono hz)).at (by omega))
          have p := hc q hlq
          clear hc
          obtain ⟨s1, s2⟩ := smK_bd HR.out f q (by rw [← HL9.out]; omega)
          have hrk : rtK f xs q = mlR (xs.getD q zMill).f1 (xs.getD q zMill).f2 (xs.getD q zMill).f3 f := rfl
          have hmo : mlOk (xs.getD q zMill).f0 (xs.getD q zMill).f1 (xs.getD q zMill).f2 (xs.getD q zMill).f3 := HR.out.1 q (by rw [← HL9.out]; exact hlq)
          have hsk : smK f xs (q + 1) = smK f xs q + rtK f xs q := rfl
          have hrb := rtK_bd HR.out f q (by rw [← HL9.out]; exact hlq)
          obtain ⟨rb1, rb2⟩ := hrb
          obtain ⟨x, hx⟩ : ∃ x, x = xs.getD q zMill := ⟨_, rfl⟩
          rw [← hx] at p hrk hmo
          clear hx
          obtain ⟨x0, x1, x2, x3⟩ := x
          obtain ⟨p0, p1, p2, p3⟩ := p
          simp only at p0 p1 p2 p3 hrk hmo
          obtain ⟨rr, hrr⟩ : ∃ rr, rr = rtK f xs q := ⟨_, rfl⟩
          obtain ⟨ss, hss⟩ : ∃ ss, ss = smK f xs q := ⟨_, rfl⟩
          rw [← hrr] at hrk rb1 rb2
          rw [← hrr, ← hss] at hsk
          rw [← hss] at s1 s2
          rw [← hss]
          have HRK := Lib.hid hrk
          have HMO := Lib.hid hmo
          have HSK := Lib.hid hsk
          clear hrr hss hrk hmo hsk
          have i1 := IntWalk.i64_in (ss + rr) (by omega)
          go_wp2_with (go_at_call 54; refine (rtS_t _ _ _ _ _ _ HMO.out HF.out rr HRK.out).mono ?_; rintro e1 w1 ⟨rfl, b1⟩)
          go_roundw
          case rel => exact ⟨q + 1, by omega, by go_num, by rw [HSK.out], hb2.trans (b1.mono hz2)⟩
          case measure => simp [intOf]; omega
        · obtain rfl : q = l := by omega
          have hown2 := owns_below hown hb2
          have HE2 := Lib.hid (show smL f xss (k + 1) = smL f xss k ++ [smK f xs q] by rw [HE.out]; unfold smR; rw [← HL9.out])
          obtain ⟨ss, hss⟩ : ∃ ss, ss = smK f xs q := ⟨_, rfl⟩
          rw [← hss] at HE2 ⊢
          clear hss
          generalize smL f xss k = L0 at *
          go_wp2_with (at_builtin; refine wpl_app1x rfl _ _ rfl _ _ rfl w.heap.size k _ L0 ss rfl (by exact hown2) rfl (by omega) (by omega) ?_; intro v1 w1 hown1 hb1 hz1)
          go_roundw
          case rel => exact ⟨k + 1, by omega, by go_num, (hb.trans (hb2.mono hz)).trans hb1, by rw [HE2.out]; exact hown1⟩
          case measure => simp [intOf]; omega
    · obtain rfl : k = n := by omega
      rw [← HL.out] at hown
      obtain ⟨B, d', rfl, hw⟩ := own_wr hown
      go_wp2
      go_ret
      exact ⟨B, d', rfl, hb, hw⟩

set_option maxRecDepth 100000 in
set_option maxHeartbeats 1600000 in
theorem ratesM_t (A : Option Addr) (n c : Nat) (xs : List RMill) (f : Int) (w : World) (ha : Rd_Mill w w.heap.size A n xs) (hs : rowOk xs) (hf : fcOk f) (L : List Int) (hL : L = rtL f xs n) :
    Calls Try.prog 137 #[.slice A n c, .int .i64 f] w fun e w' => ∃ B d, e = .returned (.slice B n d) ∧ Below w.heap.size w w' ∧ Wr w' w.heap.size B n L := by
  have hln := ha.len
  have HA := Lib.hid ha
  have HS := Lib.hid hs
  have HL := Lib.hid hL
  have HF := Lib.hid hf
  have hn8 := hs.2.2
  have n8 : n ≤ 8 := by omega
  have hm : ∀ (x0 x1 x2 x3 : Int) (j : Nat) (w : World), (method (j + 1) 25 (.agg #[.int .i64 x0, .int .i64 x1, .int .i64 x2, .int .i64 x3]) "loop.example/g01032/impl.rateAt").run Try.prog w = .ok (57, .agg #[.int .i64 x0, .int .i64 x1, .int .i64 x2, .int .i64 x3]) w := fun _ _ _ _ _ _ => by kernel_rfl
  obtain ⟨i0, hi, hz0, hz1, hz2⟩ := info_parts info_i64
  have hmk := fun W => run_make_rowN (P := Try.prog) 39 2 i0 (.int .i64 0) Try.underlying39 hi hz0 .i64 .i64 n n (Nat.le_refl _) (by rw [hz2]; omega) (by omega) W
  rw [hz1] at hmk
  obtain ⟨cs, hcs⟩ : ∃ cs, cs = madeCells (Value.int .i64 0).cells (n * 1) := ⟨_, rfl⟩
  rw [← hcs] at hmk
  have hN := Lib.hid (show Half n w.heap.size 0 (rtK f xs) (List.replicate n 0) 0 (w.alloc (.cells cs 2)) by rw [hcs]; exact Half.new w n _ _ (n * 1) (by omega))
  clear ha hs hL hf hi hz0 hz1 hz2 hcs
  go_enter Try.func137, Try.ntmps137
  go_wp2
  go_loopw [6, 7, 13] (fun _ _ i wr => ∃ q : Nat, q ≤ n ∧ i = .int .i64 (q : Int) ∧ Below w.heap.size w wr ∧ w.heap.size < wr.heap.size ∧ Hid (Half n w.heap.size 0 (rtK f xs) (List.replicate n 0) q wr)) (fun _ _ i _ => n - (intOf i).toNat)
  case atStart => exact ⟨0, by omega, rfl, (Below.refl _ _).alloc (Nat.le_refl _) _, by simp, hN.out⟩
  case round =>
    obtain ⟨q, hq, rfl, hb, hz, hH⟩ := hrel
    by_cases hlt : q < n
    · obtain ⟨ab, o, rfl, hbB, hc⟩ := ((HA.out.below hb).at (by omega))
      have p := hc q hlt
      clear hc
      have hrk : rtK f xs q = mlR (xs.getD q zMill).f1 (xs.getD q zMill).f2 (xs.getD q zMill).f3 f := rfl
      have hmo : mlOk (xs.getD q zMill).f0 (xs.getD q zMill).f1 (xs.getD q zMill).f2 (xs.getD q zMill).f3 := HS.out.1 q (by omega)
      obtain ⟨x, hx⟩ : ∃ x, x = xs.getD q zMill := ⟨_, rfl⟩
      rw [← hx] at p hrk hmo
      clear hx
      obtain ⟨x0, x1, x2, x3⟩ := x
      obtain ⟨p0, p1, p2, p3⟩ := p
      simp only at p0 p1 p2 p3 hrk hmo
      obtain ⟨rr, hrr⟩ : ∃ rr, rr = rtK f xs q := ⟨_, rfl⟩
      rw [← hrr] at hrk
      have HRR := Lib.hid hrr
      have HRK := Lib.hid hrk
      have HMO := Lib.hid hmo
      clear hrr hrk hmo
      go_wp2_with (go_at_call 57; refine (rtI_t _ _ _ _ _ _ HMO.out HF.out rr HRK.out).mono ?_; rintro e1 w1 ⟨rfl, b1⟩; have d1 : Below wr.heap.size wr w1 := (by repeat (first | assumption | exact Below.refl _ _ | (refine Below.trans ?_ (b1.mono (by first | omega | (simp; done) | (simp; omega)))) | (refine Below.setCell ?_ (by first | omega | (simp; done) | (simp; omega)) _) | apply below_drewN | apply Below.drew | (refine Below.alloc ?_ (by first | omega | (simp; done) | (simp; omega)) _))); have h1 := hH.out.below d1 hz; obtain ⟨g1, g2⟩ := h1 q hlt; rw [Nat.zero_add] at g1 g2; have z1 := d1.size)
      go_roundw
      case rel => exact ⟨q + 1, by omega, by go_num, (hb.trans (d1.mono (by omega))).setCell (Nat.le_refl _) _, by simp [World.setCell]; omega, by have := h1.step rr HRR.out; rw [Nat.zero_add] at this; exact this⟩
      case measure => simp [intOf]; omega
    · obtain rfl : q = n := by omega
      have hw := hH.out.done (base := w.heap.size) (ys := L) (by rw [HL.out, rtL_len]) (fun j hj => by rw [HL.out]; exact rtL_at f xs q j hj) (Nat.le_refl _) hz
      go_wp2
      go_ret
      first
      | exact ⟨_, _, rfl, hb, hw⟩
      | exact ⟨_, ⟨_, rfl⟩, hb, hw⟩

theorem stageRate_t (A : Option Addr) (n c : Nat) (xs : List RMill) (f : Int) (w : World) (ha : Rd_Mill w w.heap.size A n xs) (hs : rowOk xs) (hf : fcOk f) (q : Int) (hq : q = smR f xs) :
    Calls Try.prog 136 #[.slice A n c, .int .i64 f] w fun e w' => e = .returned (.int .i64 q) ∧ Below w.heap.size w w' := by
  have hln := ha.len
  have HA := Lib.hid ha
  have HS := Lib.hid hs
  have HF := Lib.hid hf
  have hn8 := hs.2.2
  obtain ⟨L, hL⟩ : ∃ L, L = rtL f xs n := ⟨_, rfl⟩
  have HL := Lib.hid hL
  have HQ := Lib.hid (show q = sumN L n by rw [hq, hL, sum_rtL f xs n n (Nat.le_refl _)]; unfold smR; rw [hln])
  have HB := Lib.hid (show ∀ j, j < n → -100000 ≤ L.getD j 0 ∧ L.getD j 0 ≤ 100000 from fun j hj => by
    rw [hL, rtL_at f xs n j hj]
    have := rtK_bd hs f j (by omega)
    omega)
  clear ha hs hf hL hq
  go_enter Try.func136, Try.ntmps136
  go_wp2_with (first | (go_at_call 137; refine (ratesM_t _ n _ xs _ _ HA.out HS.out HF.out L HL.out).mono ?_; rintro e1 w1 ⟨B, d, rfl, b1, x1⟩) | (go_at_call 105; refine (impl_sumE _ n _ L _ (by omega) x1.rd HB.out).mono ?_; rintro e2 w2 ⟨rfl, rfl⟩))
  go_ret
  exact ⟨ret_int HQ.out.symm, b1⟩

end Go.Proofs.Ytlkgbemlagfdjaa
