/- Whether two lists of stages are the same. -/
import Derived.Test.YtlkgbemlagfdjaaMilST
namespace Go.Proofs.Ytlkgbemlagfdjaa
open Go.RowKit

theorem getZm (xs : List RMill) (k : Nat) : ∃ x, x = xs.getD k zMill := ⟨_, rfl⟩
theorem ext_M {xs ys : List RMill} (hl : xs.length = ys.length) (h : ∀ j, j < xs.length → xs.getD j zMill = ys.getD j zMill) : xs = ys := by
  apply List.ext_getElem hl
  intro j h1 h2
  have := h j h1
  rwa [getDMill h1, getDMill h2] at this
theorem mGet_at {xss : List (List RMill)} {j : Nat} (h : j < xss.length) : mGet xss j = xss[j] := by
  unfold mGet; rw [List.getD_eq_getElem?_getD, List.getElem?_eq_getElem h]; rfl
theorem ext_SS {xss yss : List (List RMill)} (hl : xss.length = yss.length) (h : ∀ j, j < xss.length → mGet xss j = mGet yss j) : xss = yss := by
  apply List.ext_getElem hl
  intro j h1 h2
  have := h j h1
  rwa [mGet_at h1, mGet_at h2] at this

set_option maxHeartbeats 1600000 in
theorem slEqualM_t (A B : Option Addr) (n c m d : Nat) (xs ys : List RMill) (w : World) (hn : n ≤ 1048576) (hm : m ≤ 1048576) (ha : Rd_Mill w w.heap.size A n xs) (hb : Rd_Mill w w.heap.size B m ys) (v : Bool) (hv : v = decide (xs = ys)) :
    Calls Try.prog 65 #[.slice A n c, .slice B m d] w fun e w' => e = .returned (.bool v) ∧ Below w.heap.size w w' := by
  by_cases hnm : n = m
  · subst hnm
    have h0 : ((n : Int) != (n : Int)) = false := by simp
    have hg := guardMill
    have HA := Lib.hid ha
    have HB := Lib.hid hb
    have HV := Lib.hid hv
    clear ha hb hv
    go_enter Try.func65, Try.ntmps65
    go_wp2
    go_loopw [5, 13] (fun _ i wr => ∃ k m : Nat, k ≤ n ∧ i = .int .i64 (k : Int) ∧ wr = w.drewN m ∧ Hid (∀ j, j < k → xs.getD j zMill = ys.getD j zMill)) (fun _ i _ => n - (intOf i).toNat)
    case atStart => exact ⟨0, 0, by omega, rfl, rfl, fun j hj => absurd hj (by omega)⟩
    case round =>
      obtain ⟨k, m, hk, rfl, rfl, hr⟩ := hrel
      by_cases hlt : k < n
      · obtain ⟨b, o, rfl, hbB, hc⟩ := HA.out.at (by omega)
        obtain ⟨b', o', rfl, hbB', hc'⟩ := HB.out.at (by omega)
        have p := hc k hlt
        have p' := hc' k hlt
        clear hc hc'
        obtain ⟨x, hx⟩ := getZm xs k
        obtain ⟨y, hy⟩ := getZm ys k
        rw [← hx] at p
        rw [← hy] at p'
        have HX := Lib.hid hx
        have HY := Lib.hid hy
        clear hx hy
        obtain ⟨x0, x1, x2, x3⟩ := x
        obtain ⟨y0, y1, y2, y3⟩ := y
        obtain ⟨p0, p1, p2, p3⟩ := p
        obtain ⟨p0', p1', p2', p3'⟩ := p'
        simp only at p0 p1 p2 p3 p0' p1' p2' p3'
        by_cases he : (⟨x0, x1, x2, x3⟩ : RMill) = ⟨y0, y1, y2, y3⟩
        · have e1 := neqMill x0 x1 x2 x3 y0 y1 y2 y3 false (by rw [decide_eq_true he]; rfl)
          have HE := Lib.hid he
          clear he
          go_wp2
          go_quiet (fail)
          go_wp2
          go_roundw
          case rel => exact ⟨k + 1, _, by omega, by go_num, rfl, fun j hj => by
            by_cases e : j = k
            · subst e; rw [← HX.out, ← HY.out]; exact HE.out
            · exact hr.out j (by omega)⟩
          case measure => simp [intOf]; omega
        · have e1 := neqMill x0 x1 x2 x3 y0 y1 y2 y3 true (by rw [decide_eq_false he]; rfl)
          have HE := Lib.hid he
          clear he
          go_wp2
          go_quiet (fail)
          go_wp2
          go_ret
          refine ⟨ret_bool ?_, (by repeat (first | assumption | exact Below.refl _ _ | (refine Below.setCell ?_ (by first | omega | (simp; done) | (simp; omega)) _) | apply below_drewN | apply Below.drew | (refine Below.alloc ?_ (by first | omega | (simp; done) | (simp; omega)) _)))⟩
          rw [HV.out]
          exact (decide_eq_false (fun h => HE.out (by rw [HX.out, HY.out, h]))).symm
      · obtain rfl : k = n := by omega
        go_wp2
        go_ret
        refine ⟨ret_bool ?_, (by repeat (first | assumption | exact Below.refl _ _ | (refine Below.setCell ?_ (by first | omega | (simp; done) | (simp; omega)) _) | apply below_drewN | apply Below.drew | (refine Below.alloc ?_ (by first | omega | (simp; done) | (simp; omega)) _)))⟩
        rw [HV.out]
        exact (decide_eq_true (ext_M (by rw [HA.out.len, HB.out.len]) (fun j hj => hr.out j (by rw [HA.out.len] at hj; exact hj)))).symm
  · have h0 : ((n : Int) != (m : Int)) = true := by simp; omega
    have hf : v = false := by rw [hv]; exact decide_eq_false (fun h => hnm (by rw [← ha.len, ← hb.len, h]))
    have HF := Lib.hid hf
    clear hv hf hnm
    go_enter Try.func65, Try.ntmps65
    go_wp2
    go_ret
    exact ⟨ret_bool HF.out.symm, Below.refl _ _⟩


set_option maxRecDepth 100000 in
set_option maxHeartbeats 1600000 in
theorem equalFunc_t (A B : Option Addr) (n c m d : Nat) (xss yss : List (List RMill)) (w : World) (hn : totSS xss ≤ 1048576) (hm : totSS yss ≤ 1048576) (ha : Rd_MillSS w w.heap.size A n xss) (hb : Rd_MillSS w w.heap.size B m yss) (v : Bool) (hv : v = decide (xss = yss)) :
    Calls Try.prog 64 #[.slice A n c, .slice B m d, .func (.func 65) #[] #[]] w fun e w' => e = .returned (.bool v) ∧ Below w.heap.size w w' := by
  have hx := ha.1
  have hy := hb.1
  have hnb : n ≤ 1048576 := by unfold totSS at hn; omega
  have hmb : m ≤ 1048576 := by unfold totSS at hm; omega
  have hnot : ∀ (x : Bool) (w : World), (Op.unary .not (.bool x)).run Try.prog w = .ok (.bool (!x)) w := fun _ _ => rfl
  by_cases hnm : n = m
  · subst hnm
    have h0 : ((n : Int) != (n : Int)) = false := by simp
    have HA := Lib.hid ha
    have HB := Lib.hid hb
    have HV := Lib.hid hv
    unfold totSS at hn hm
    rw [hx] at hn
    rw [hy] at hm
    clear ha hb hv
    go_enter Try.func64, Try.ntmps64
    go_wp2
    go_loopw [7, 8, 9, 17] (fun _ _ _ i wr => ∃ k : Nat, k ≤ n ∧ i = .int .i64 (k : Int) ∧ Below w.heap.size w wr ∧ Hid (∀ j, j < k → mGet xss j = mGet yss j)) (fun _ _ _ i _ => n - (intOf i).toNat)
    case atStart => exact ⟨0, by omega, rfl, Below.refl _ _, fun j hj => absurd hj (by omega)⟩
    case round =>
      obtain ⟨k, hk, rfl, hb, hr⟩ := hrel
      have hz := hb.size
      by_cases hlt : k < n
      · obtain ⟨b, off, rfl, hB, hc⟩ := HA.out.2 (by omega)
        obtain ⟨A', c', h1, h3⟩ := hc k hlt
        have c1 := (hb.cell (p := ⟨b, off + k, none⟩) hB).trans h1
        obtain ⟨b2, off2, rfl, hB2, hc2⟩ := HB.out.2 (by omega)
        obtain ⟨A2, c2', h12, h32⟩ := hc2 k hlt
        have c2 := (hb.cell (p := ⟨b2, off2 + k, none⟩) hB2).trans h12
        have hm1 := lenSS_at xss hlt
        have hm2 := lenSS_at yss hlt
        have R1 := Lib.hid (Rd_Mill.mono (h3.below hb) hz)
        have R2 := Lib.hid (Rd_Mill.mono (h32.below hb) hz)
        clear hc h1 h3 hc2 h12 h32
        obtain ⟨u, hu⟩ : ∃ u, u = decide (mGet xss k = mGet yss k) := ⟨_, rfl⟩
        have HU := Lib.hid hu
        cases u with
        | true =>
          have HG := Lib.hid (of_decide_eq_true hu.symm)
          clear hu
          go_wp2_with (go_at_call 65; refine (slEqualM_t _ _ _ _ _ _ (mGet xss k) (mGet yss k) _ (by omega) (by omega) R1.out R2.out true HU.out).mono ?_; rintro e1 w1 ⟨rfl, b1⟩)
          go_roundw
          case rel => exact ⟨k + 1, by omega, by go_num, hb.trans (b1.mono hz), fun j hj => by
            by_cases e : j = k
            · subst e; exact HG.out
            · exact hr.out j (by omega)⟩
          case measure => simp [intOf]; omega
        | false =>
          have HF := Lib.hid (show v = false by rw [HV.out]; exact decide_eq_false (fun h => of_decide_eq_false hu.symm (by rw [h])))
          clear hu
          go_wp2_with (go_at_call 65; refine (slEqualM_t _ _ _ _ _ _ (mGet xss k) (mGet yss k) _ (by omega) (by omega) R1.out R2.out false HU.out).mono ?_; rintro e1 w1 ⟨rfl, b1⟩)
          go_ret
          exact ⟨ret_bool HF.out.symm, hb.trans (b1.mono hz)⟩
      · obtain rfl : k = n := by omega
        have HT := Lib.hid (show v = true by rw [HV.out]; exact decide_eq_true (ext_SS (by rw [hx, hy]) (fun j hj => hr.out j (by omega))))
        go_wp2
        go_ret
        exact ⟨ret_bool HT.out.symm, hb⟩
  · have h0 : ((n : Int) != (m : Int)) = true := by simp; omega
    have HF := Lib.hid (show v = false by rw [hv]; exact decide_eq_false (fun h => hnm (by rw [← hx, ← hy, h])))
    clear hv hnm ha hb
    go_enter Try.func64, Try.ntmps64
    go_wp2
    go_ret
    exact ⟨ret_bool HF.out.symm, Below.refl _ _⟩

set_option maxRecDepth 100000 in
set_option maxHeartbeats 1600000 in
theorem sameSS_t (A B : Option Addr) (n c m d : Nat) (xss yss : List (List RMill)) (w : World) (hn : totSS xss ≤ 1048576) (hm : totSS yss ≤ 1048576) (ha : Rd_MillSS w w.heap.size A n xss) (hb : Rd_MillSS w w.heap.size B m yss) (v : Bool) (hv : v = decide (xss = yss)) :
    Calls Try.prog 25 #[.slice A n c, .slice B m d] w fun e w' => e = .returned (.bool v) ∧ Below w.heap.size w w' := by
  have hx := ha.1
  have hy := hb.1
  have hnb : n ≤ 1048576 := by unfold totSS at hn; omega
  have hmb : m ≤ 1048576 := by unfold totSS at hm; omega
  have hg := guardMill
  by_cases hnm : n = m
  · subst hnm
    have h0 : ((n : Int) != (n : Int)) = false := by simp
    have HA := Lib.hid ha
    have HB := Lib.hid hb
    have HV := Lib.hid hv
    unfold totSS at hn hm
    rw [hx] at hn
    rw [hy] at hm
    clear ha hb hv
    go_enter Try.func25, Try.ntmps25
    go_wp2
    go_loopw [5, 6] (fun i _ wr => ∃ k m : Nat, k ≤ n ∧ i = .int .i64 (k : Int) ∧ wr = w.drewN m ∧ Hid (∀ j, j < k → mGet xss j = mGet yss j)) (fun i _ _ => n - (intOf i).toNat)
    case atStart => exact ⟨0, 0, by omega, rfl, rfl, fun j hj => absurd hj (by omega)⟩
    case round =>
      obtain ⟨k, m, hk, rfl, rfl, hr⟩ := hrel
      by_cases hlt : k < n
      · obtain ⟨b, off, rfl, hB, hc⟩ := HA.out.2 (by omega)
        obtain ⟨A', c', c1, h3⟩ := hc k hlt
        obtain ⟨b2, off2, rfl, hB2, hc2⟩ := HB.out.2 (by omega)
        obtain ⟨A2, c2', c2, h32⟩ := hc2 k hlt
        have hm1 := lenSS_at xss hlt
        have hm2 := lenSS_at yss hlt
        have R1 := Lib.hid h3
        have R2 := Lib.hid h32
        clear hc h3 hc2 h32
        obtain ⟨xs, hxs⟩ : ∃ xs, xs = mGet xss k := ⟨_, rfl⟩
        obtain ⟨ys, hys⟩ : ∃ ys, ys = mGet yss k := ⟨_, rfl⟩
        have HXS := Lib.hid hxs
        have HYS := Lib.hid hys
        rw [← hxs] at c1 hm1 R1
        rw [← hys] at c2 hm2 R2
        obtain ⟨l1, hl1⟩ : ∃ l, l = xs.length := ⟨_, rfl⟩
        obtain ⟨l2, hl2⟩ : ∃ l, l = ys.length := ⟨_, rfl⟩
        have HL1 := Lib.hid hl1
        have HL2 := Lib.hid hl2
        rw [← hl1] at c1 hm1 R1
        rw [← hl2] at c2 hm2 R2
        clear hxs hys hl1 hl2
        by_cases hll : l1 = l2
        · subst hll
          have h9 : ((l1 : Int) != (l1 : Int)) = false := by simp
          go_wp2
          go_quiet (fail)
          go_wp2
          go_loopw [6] (fun i wr2 => ∃ q m2 : Nat, q ≤ l1 ∧ i = .int .i64 (q : Int) ∧ wr2 = w.drewN m2 ∧ Hid (∀ j, j < q → xs.getD j zMill = ys.getD j zMill)) (fun i _ => l1 - (intOf i).toNat)
          case atStart => exact ⟨0, _, by omega, rfl, by first | rfl | exact World.drewN_drewN _ _ _ | (simp; done) | simp [World.drewN], fun j hj => absurd hj (by omega)⟩
          case round =>
            obtain ⟨q, m2, hq, rfl, rfl, hr2⟩ := hrel
            by_cases hlq : q < l1
            · obtain ⟨b3, o3, rfl, hbB, hc⟩ := R1.out.at (by omega)
              obtain ⟨b4, o4, rfl, hbB', hc'⟩ := R2.out.at (by omega)
              have p := hc q hlq
              have p' := hc' q hlq
              clear hc hc'
              obtain ⟨x, hx⟩ := getZm xs q
              obtain ⟨y, hy⟩ := getZm ys q
              rw [← hx] at p
              rw [← hy] at p'
              have HX := Lib.hid hx
              have HY := Lib.hid hy
              clear hx hy
              obtain ⟨x0, x1, x2, x3⟩ := x
              obtain ⟨y0, y1, y2, y3⟩ := y
              obtain ⟨p0, p1, p2, p3⟩ := p
              obtain ⟨p0', p1', p2', p3'⟩ := p'
              simp only at p0 p1 p2 p3 p0' p1' p2' p3'
              by_cases he : (⟨x0, x1, x2, x3⟩ : RMill) = ⟨y0, y1, y2, y3⟩
              · have e1 := neqMill x0 x1 x2 x3 y0 y1 y2 y3 false (by rw [decide_eq_true he]; rfl)
                have HE := Lib.hid he
                clear he
                go_wp2
                go_quiet (fail)
                go_wp2
                go_roundw
                case rel => exact ⟨q + 1, _, by omega, by go_num, rfl, fun j hj => by
                  by_cases e : j = q
                  · subst e; rw [← HX.out, ← HY.out]; exact HE.out
                  · exact hr2.out j (by omega)⟩
                case measure => simp [intOf]; omega
              · have e1 := neqMill x0 x1 x2 x3 y0 y1 y2 y3 true (by rw [decide_eq_false he]; rfl)
                have HF := Lib.hid (show v = false by rw [HV.out]; exact decide_eq_false (fun h => he (by rw [HX.out, HY.out, HXS.out, HYS.out, h])))
                clear he
                go_wp2
                go_quiet (fail)
                go_wp2
                go_ret
                exact ⟨ret_bool HF.out.symm, (by repeat (first | assumption | exact Below.refl _ _ | (refine Below.setCell ?_ (by first | omega | (simp; done) | (simp; omega)) _) | apply below_drewN | apply Below.drew | (refine Below.alloc ?_ (by first | omega | (simp; done) | (simp; omega)) _)))⟩
            · obtain rfl : q = l1 := by omega
              have HG := Lib.hid (show mGet xss k = mGet yss k by rw [← HXS.out, ← HYS.out]; exact ext_M (by rw [← HL1.out, ← HL2.out]) (fun j hj => hr2.out j (by rw [HL1.out]; exact hj)))
              go_wp2
              go_roundw
              case rel => exact ⟨k + 1, _, by omega, by go_num, rfl, fun j hj => by
                by_cases e : j = k
                · subst e; exact HG.out
                · exact hr.out j (by omega)⟩
              case measure => simp [intOf]; omega
        · have h9 : ((l1 : Int) != (l2 : Int)) = true := by simp; omega
          have HF := Lib.hid (show v = false by rw [HV.out]; exact decide_eq_false (fun h => hll (by rw [HL1.out, HL2.out, HXS.out, HYS.out, h])))
          go_wp2
          go_quiet (fail)
          go_wp2
          go_ret
          exact ⟨ret_bool HF.out.symm, (by repeat (first | assumption | exact Below.refl _ _ | (refine Below.setCell ?_ (by first | omega | (simp; done) | (simp; omega)) _) | apply below_drewN | apply Below.drew | (refine Below.alloc ?_ (by first | omega | (simp; done) | (simp; omega)) _)))⟩
      · obtain rfl : k = n := by omega
        have HT := Lib.hid (show v = true by rw [HV.out]; exact decide_eq_true (ext_SS (by rw [hx, hy]) (fun j hj => hr.out j (by omega))))
        go_wp2
        go_ret
        exact ⟨ret_bool HT.out.symm, (by repeat (first | assumption | exact Below.refl _ _ | (refine Below.setCell ?_ (by first | omega | (simp; done) | (simp; omega)) _) | apply below_drewN | apply Below.drew | (refine Below.alloc ?_ (by first | omega | (simp; done) | (simp; omega)) _)))⟩
  · have h0 : ((n : Int) != (m : Int)) = true := by simp; omega
    have HF := Lib.hid (show v = false by rw [hv]; exact decide_eq_false (fun h => hnm (by rw [← hx, ← hy, h])))
    clear hv hnm ha hb
    go_enter Try.func25, Try.ntmps25
    go_wp2
    go_ret
    exact ⟨ret_bool HF.out.symm, Below.refl _ _⟩

def r0_SameStages (xa0 : List (List RMill)) (xa1 : List (List RMill)) : Bool := decide (xa0 = xa1)

theorem specC_SameStages (a0 : Option Addr) (la0 ca0 : Nat) (xa0 : List (List RMill)) (a1 : Option Addr) (la1 ca1 : Nat) (xa1 : List (List RMill)) (w : World) (ha0 : totSS xa0 ≤ 1048576) (ra0 : Rd_MillSS w w.heap.size a0 la0 xa0) (fa0 : Wf_MillSS xa0) (ha1 : totSS xa1 ≤ 1048576) (ra1 : Rd_MillSS w w.heap.size a1 la1 xa1) (fa1 : Wf_MillSS xa1) :
    Calls Try.prog 25 #[.slice a0 la0 ca0, .slice a1 la1 ca1] w fun e w' => e = .returned (.bool (r0_SameStages xa0 xa1)) ∧ Below w.heap.size w w' := by
  exact sameSS_t a0 a1 la0 ca0 la1 ca1 xa0 xa1 w ha0 ha1 ra0 ra1 _ rfl

theorem implC_SameStages (a0 : Option Addr) (la0 ca0 : Nat) (xa0 : List (List RMill)) (a1 : Option Addr) (la1 ca1 : Nat) (xa1 : List (List RMill)) (w : World) (ha0 : totSS xa0 ≤ 1048576) (ra0 : Rd_MillSS w w.heap.size a0 la0 xa0) (fa0 : Wf_MillSS xa0) (ha1 : totSS xa1 ≤ 1048576) (ra1 : Rd_MillSS w w.heap.size a1 la1 xa1) (fa1 : Wf_MillSS xa1) :
    Calls Try.prog 26 #[.slice a0 la0 ca0, .slice a1 la1 ca1] w fun e w' => e = .returned (.bool (r0_SameStages xa0 xa1)) ∧ Below w.heap.size w w' := by
  have RA := Lib.hid ra0
  have RB := Lib.hid ra1
  obtain ⟨v, hv⟩ : ∃ v, v = r0_SameStages xa0 xa1 := ⟨_, rfl⟩
  rw [← hv]
  have HV := Lib.hid (show v = decide (xa0 = xa1) from hv)
  clear ra0 ra1 hv
  go_enter Try.func26, Try.ntmps26
  go_wp2_with (go_at_call 64; refine (equalFunc_t _ _ _ _ _ _ xa0 xa1 _ ha0 ha1 RA.out RB.out v HV.out).mono ?_; rintro e1 w1 ⟨rfl, b1⟩)
  go_ret
  exact ⟨rfl, b1⟩

end Go.Proofs.Ytlkgbemlagfdjaa
