/- Contracts: flows that lead water (of the model, of the program). -/
import Derived.Test.YtlibmlbefboolaaCCutFlow
import Derived.StillTailTactics
namespace Go.Proofs.Ytlibmlbefboolaa
open Go.RowKit

theorem outOf_z {J : Int} {xs : List RDitch} {fl : List Int} (j : Int) (h : NetOk J xs) {k : Nat} (hk : k ≤ xs.length) (hf : fits xs fl k) : -20000 ≤ outOf xs fl j k ∧ outOf xs fl j k ≤ 20000 := by
  have h1 := outOf_bd fl j h.2.2 k hk hf
  have h2 := h.2.1
  omega
theorem fits_succ {xs : List RDitch} {fl : List Int} {k : Nat} (h : fits xs fl k) (hk : 0 ≤ fl.getD k 0 ∧ fl.getD k 0 ≤ (xs.getD k zDitch).f2) : fits xs fl (k + 1) := fun j hj => by
  by_cases e : j = k
  · subst e; exact hk
  · exact h j (by omega)
/-- what the model reckons: for each junction what flows out less what flows in -/
def lefts (xs : List RDitch) (fl : List Int) (n k : Nat) : List Int := (List.range n).map fun (j : Nat) => outOf xs fl (j : Int) k
theorem lefts_len (xs : List RDitch) (fl : List Int) (n k : Nat) : (lefts xs fl n k).length = n := by simp [lefts]
theorem lefts_at (xs : List RDitch) (fl : List Int) (n k j : Nat) (h : j < n) : (lefts xs fl n k).getD j 0 = outOf xs fl (j : Int) k := by
  simp [lefts, List.getD_eq_getElem?_getD, h]
theorem lefts_step (xs : List RDitch) (fl : List Int) (n k p q : Nat) (v : Int) (hp : p < n) (hq : q < n) (hpq : ¬ p = q) (e0 : (xs.getD k zDitch).f0 = (p : Int)) (e1 : (xs.getD k zDitch).f1 = (q : Int)) (hv : v = fl.getD k 0) :
    lefts xs fl n (k + 1) = ((lefts xs fl n k).set p (outOf xs fl p k + v)).set q (outOf xs fl q k - v) := by
  apply ext_getD (by simp [lefts_len])
  intro j hj
  rw [lefts_len] at hj
  rw [lefts_at _ _ _ _ _ hj, outOf, e0, e1, getD_set _ _ _ _ (by simp [lefts_len, hq]), getD_set _ _ _ _ (by simp [lefts_len, hp]), lefts_at _ _ _ _ _ hj, ← hv]
  by_cases h1 : j = q
  · subst h1
    have h3 : ¬ ((p : Int) = (j : Int)) := by omega
    simp only [h3, if_false, if_true]
    omega
  · have h3 : ¬ ((q : Int) = (j : Int)) := by omega
    by_cases h2 : j = p
    · subst h2
      simp only [h1, h3, if_false, if_true]
      omega
    · have h4 : ¬ ((p : Int) = (j : Int)) := by omega
      simp only [h1, h2, h3, h4, if_false]
      omega
theorem wr_at {w : World} {lo b o n : Nat} {xs : List Int} (h : Wr w lo (some ⟨b, o, none⟩) n xs) {j : Nat} (hj : j < n) : w.cell? ⟨b, o + j, none⟩ = some (.int .i64 (xs.getD j 0)) ∧ w.frozen? ⟨b, o + j, none⟩ = false := by
  obtain ⟨b', o', e, _, _, hc⟩ := h.2 (by omega)
  injection e with e
  injection e with e1 e2
  subst e1
  subst e2
  exact hc j hj

theorem Half.start {n b o base : Nat} {f : Nat → Int} {xs ys : List Int} {w : World} (h : Half n b o f xs 0 w) (hl : ys.length = n) (hy : ∀ j, j < n → ys.getD j 0 = xs.getD j 0) (h0 : base ≤ b) (hb : b < w.heap.size) : Wr w base (some ⟨b, o, none⟩) n ys :=
  ⟨hl, fun _ => ⟨b, o, rfl, h0, hb, fun j hj => by
    obtain ⟨h1, h2⟩ := h j hj
    rw [if_neg (Nat.not_lt_zero j)] at h1
    exact ⟨by rw [hy j hj]; exact h1, h2⟩⟩⟩

/-- what the model tells of flows -/
def LeadPost (J : Int) (xs : List RDitch) (f : Int) (fl : List Int) (w : World) (e : Ending) (w' : World) : Prop :=
  ∃ s : Int, e = .returned (.tuple #[.int .i64 s, .bool (decide (leads J xs f fl))]) ∧ (leads J xs f fl → s = outOf xs fl f xs.length) ∧ Below w.heap.size w w'
theorem lead_no {J : Int} {xs : List RDitch} {f : Int} {fl : List Int} {w w' : World} (h : ¬ leads J xs f fl) (hb : Below w.heap.size w w') : LeadPost J xs f fl w (.returned (.tuple #[.int .i64 0, .bool false])) w' :=
  ⟨0, by rw [decide_eq_false h], fun g => absurd g h, hb⟩

set_option maxRecDepth 100000 in
set_option maxHeartbeats 3200000 in
theorem l04Lead_t (b : Nat) (J : Int) (A : Option Addr) (n k : Nat) (xs : List RDitch) (f : Int) (F : Option Addr) (c : Nat) (fl : List Int) (w : World) (hb0 : b < w.heap.size) (hn : n ≤ 1048576) (hl : NetAt w b J A n k) (hx : Rd_Ditch w w.heap.size A n xs) (ha : Rd w w.heap.size F n fl) (hok : NetOk J xs) (hst : start J f) :
    Calls Try.prog 45 #[.pointer (some ⟨b, 0, none⟩), .int .i64 f, .slice F n c] w (LeadPost J xs f fl w) := by
  obtain ⟨Jn, rfl⟩ : ∃ q : Nat, J = (q : Int) := ⟨J.toNat, by have := hok.1; omega⟩
  obtain ⟨fn, rfl⟩ : ∃ q : Nat, f = (q : Int) := ⟨f.toNat, by have := hst.1; omega⟩
  have hJ := hok.1
  have hj1 : 2 ≤ Jn := by omega
  have hj2 : Jn ≤ 10 := by omega
  have hf1 : 1 ≤ fn := by have := hst.1; omega
  have hf2 : fn < Jn := by have := hst.2; omega
  have hln := hx.len
  have HX := Lib.hid hx
  have HA := Lib.hid ha
  have HK := Lib.hid hok
  have HL := Lib.hid hl
  have HLN := Lib.hid hln
  obtain ⟨c0, c1⟩ := hl
  clear hx ha hok hln hst hJ
  obtain ⟨i0, hi, hz0, hz1, hz2⟩ := info_parts info_i64
  have hmk := fun W => run_make_rowN (P := Try.prog) 41 2 i0 (.int .i64 0) Try.underlying41 hi hz0 .i64 .i64 Jn Jn (Nat.le_refl _) (by rw [hz2]; omega) (by omega) W
  rw [hz1] at hmk
  clear hi hz0 hz1 hz2
  have hne : ¬ b = w.heap.size := by omega
  go_enter Try.func45, Try.ntmps45
  go_wp2
  go_loopw [9] (fun i wr => ∃ q : Nat, q ≤ n ∧ i = .int .i64 (q : Int) ∧ Below w.heap.size w wr ∧ w.heap.size < wr.heap.size ∧ Wr wr w.heap.size (some ⟨w.heap.size, 0, none⟩) Jn (lefts xs fl Jn q) ∧ Hid (fits xs fl q)) (fun i _ => n - (intOf i).toNat)
  case atStart =>
    refine ⟨0, by omega, rfl, (Below.refl _ _).alloc (Nat.le_refl _) _, by simp, ?_, fun j hj => absurd hj (by omega)⟩
    exact Half.start (xs := List.replicate Jn 0) (ys := lefts xs fl Jn 0) (Half.new w Jn (fun _ => 0) _ Jn rfl) (lefts_len _ _ _ _) (fun j hj => by rw [lefts_at _ _ _ _ _ hj]; simp [outOf, List.getD_eq_getElem?_getD, hj]) (Nat.le_refl _) (by simp)
  case round =>
    obtain ⟨q, hq, rfl, hb, hs, hw, hr⟩ := hrel
    by_cases hlt : q < n
    · obtain ⟨ab, o, rfl, hB, hc⟩ := HX.out.at (by omega)
      obtain ⟨fb, fo, rfl, hfB, hfc⟩ := HA.out.2 (by omega)
      have p := hc q hlt
      have PF := hfc q hlt
      clear hc hfc
      have hd := HK.out.2.2 q (by rw [HLN.out]; exact hlt)
      obtain ⟨x, hx⟩ := getZ xs q
      obtain ⟨v, hv⟩ : ∃ v, v = fl.getD q 0 := ⟨_, rfl⟩
      rw [← hx] at p hd
      rw [← hv] at PF
      have HE := Lib.hid hx
      have HV := Lib.hid hv
      clear hx hv
      obtain ⟨y0, y1, y2⟩ := x
      obtain ⟨P0, P1, P2⟩ := p
      obtain ⟨⟨h00, h01⟩, ⟨h10, h11⟩, h3, hd1, hd2⟩ := hd
      simp only at P0 P1 P2 h00 h01 h10 h11 h3 hd1 hd2
      obtain ⟨a, rfl⟩ : ∃ a : Nat, y0 = (a : Int) := ⟨y0.toNat, by omega⟩
      obtain ⟨e, rfl⟩ : ∃ a : Nat, y1 = (a : Int) := ⟨y1.toNat, by omega⟩
      have ha' : a < Jn := by omega
      have he' : e < Jn := by omega
      have hae : ¬ a = e := by omega
      have hea : ¬ e = a := by omega
      clear h3 h00 h01 h10 h11
      have n1 : ¬ ab = w.heap.size := by omega
      have n2 : ¬ fb = w.heap.size := by omega
      have d0 : wr.cell? ⟨b, 0, none⟩ = _ := (hb.cell (p := ⟨b, 0, none⟩) hb0).trans c0
      have d1 : wr.cell? ⟨b, 1, none⟩ = _ := (hb.cell (p := ⟨b, 1, none⟩) hb0).trans c1
      have p0 : wr.cell? ⟨ab, o + q * 3, none⟩ = _ := (hb.cell (p := ⟨ab, o + q * 3, none⟩) hB).trans P0
      have p1 : wr.cell? ⟨ab, o + q * 3 + 1, none⟩ = _ := (hb.cell (p := ⟨ab, o + q * 3 + 1, none⟩) hB).trans P1
      have p2 : wr.cell? ⟨ab, o + q * 3 + 2, none⟩ = _ := (hb.cell (p := ⟨ab, o + q * 3 + 2, none⟩) hB).trans P2
      have pf : wr.cell? ⟨fb, fo + q, none⟩ = _ := (hb.cell (p := ⟨fb, fo + q, none⟩) hfB).trans PF
      by_cases hfit : 0 ≤ v ∧ v ≤ y2
      · have hf1' : fits xs fl (q + 1) := fits_succ hr.out (by rw [← HV.out, ← HE.out]; exact hfit)
        have HF := Lib.hid hf1'
        obtain ⟨u1, u2⟩ := outOf_z (a : Int) HK.out (k := q) (by rw [HLN.out]; omega) hr.out
        obtain ⟨u3, u4⟩ := outOf_z (e : Int) HK.out (k := q) (by rw [HLN.out]; omega) hr.out
        have st := lefts_step xs fl Jn q a e v ha' he' hae (by rw [← HE.out]) (by rw [← HE.out]) HV.out
        obtain ⟨v0, hv0⟩ : ∃ z, z = outOf xs fl (a : Int) q := ⟨_, rfl⟩
        obtain ⟨v1, hv1⟩ : ∃ z, z = outOf xs fl (e : Int) q := ⟨_, rfl⟩
        rw [← hv0] at u1 u2 st
        rw [← hv1] at u3 u4 st
        have ST := Lib.hid st
        have HW := Lib.hid hw
        have V0 := Lib.hid hv0
        have V1 := Lib.hid hv1
        clear st hw hf1' hv0 hv1
        go_wp2_with fail
        go_quiet ((go_at_call 36; first | exact Calls.quiet_of_same ((in_t _ _ _ _ (by omega)).mono fun _ _ h => ⟨h.1, h.2.symm⟩) | exact Calls.quiet_of_same ((in_f _ _ _ _ (by omega)).mono fun _ _ h => ⟨h.1, h.2.symm⟩)))
        go_wp2
        have hb2 := below_drewN hb nq
        have hs2 : w.heap.size < (wr.drewN nq).heap.size := hs
        have HW2 := Lib.hid (Wr.drewN HW.out nq)
        clear hb hs HW d0 d1 p0 p1 p2 pf
        generalize wr.drewN nq = w2 at hb2 hs2 HW2 ⊢
        obtain ⟨c5, f5⟩ := wr_at HW2.out ha'
        rw [lefts_at _ _ _ _ _ ha', ← V0.out] at c5
        simp only [Nat.zero_add] at c5 f5
        have d0 : w2.cell? ⟨b, 0, none⟩ = _ := (hb2.cell (p := ⟨b, 0, none⟩) hb0).trans c0
        have d1 : w2.cell? ⟨b, 1, none⟩ = _ := (hb2.cell (p := ⟨b, 1, none⟩) hb0).trans c1
        have p0 : w2.cell? ⟨ab, o + q * 3, none⟩ = _ := (hb2.cell (p := ⟨ab, o + q * 3, none⟩) hB).trans P0
        have p1 : w2.cell? ⟨ab, o + q * 3 + 1, none⟩ = _ := (hb2.cell (p := ⟨ab, o + q * 3 + 1, none⟩) hB).trans P1
        have p2 : w2.cell? ⟨ab, o + q * 3 + 2, none⟩ = _ := (hb2.cell (p := ⟨ab, o + q * 3 + 2, none⟩) hB).trans P2
        have pf : w2.cell? ⟨fb, fo + q, none⟩ = _ := (hb2.cell (p := ⟨fb, fo + q, none⟩) hfB).trans PF
        go_still_tail 17, (by kernel_rfl)
        change wpList _ _ _ _ _ (World.drew _)
        go_wp2
        have hb3 : Below w.heap.size w (w2.setCell ⟨w.heap.size, a, none⟩ (.int .i64 (v0 + v))).drew := (hb2.setCell (Nat.le_refl _) _).drew
        have hs3 : w.heap.size < (w2.setCell ⟨w.heap.size, a, none⟩ (.int .i64 (v0 + v))).drew.heap.size := Nat.lt_of_lt_of_le hs2 (gb_setCell w2 ⟨w.heap.size, a, none⟩ (.int .i64 (v0 + v))).size
        have hw3 : Wr (w2.setCell ⟨w.heap.size, a, none⟩ (.int .i64 (v0 + v))).drew w.heap.size (some ⟨w.heap.size, 0, none⟩) Jn ((lefts xs fl Jn q).set a (v0 + v)) := by
          have := Wr.put (w := w2) HW2.out ha' (v0 + v)
          simp only [Nat.zero_add] at this
          exact this
        have HW3 := Lib.hid hw3
        clear hb2 hs2 HW2 d0 d1 p0 p1 p2 pf c5 f5 hw3
        generalize (w2.setCell ⟨w.heap.size, a, none⟩ (.int .i64 (v0 + v))).drew = w3 at hb3 hs3 HW3 ⊢
        obtain ⟨c6, f6⟩ := wr_at HW3.out he'
        rw [getD_set _ _ _ _ (by rw [lefts_len]; exact ha'), if_neg hea, lefts_at _ _ _ _ _ he', ← V1.out] at c6
        simp only [Nat.zero_add] at c6 f6
        have d0 : w3.cell? ⟨b, 0, none⟩ = _ := (hb3.cell (p := ⟨b, 0, none⟩) hb0).trans c0
        have d1 : w3.cell? ⟨b, 1, none⟩ = _ := (hb3.cell (p := ⟨b, 1, none⟩) hb0).trans c1
        have p0 : w3.cell? ⟨ab, o + q * 3, none⟩ = _ := (hb3.cell (p := ⟨ab, o + q * 3, none⟩) hB).trans P0
        have p1 : w3.cell? ⟨ab, o + q * 3 + 1, none⟩ = _ := (hb3.cell (p := ⟨ab, o + q * 3 + 1, none⟩) hB).trans P1
        have p2 : w3.cell? ⟨ab, o + q * 3 + 2, none⟩ = _ := (hb3.cell (p := ⟨ab, o + q * 3 + 2, none⟩) hB).trans P2
        have pf : w3.cell? ⟨fb, fo + q, none⟩ = _ := (hb3.cell (p := ⟨fb, fo + q, none⟩) hfB).trans PF
        go_still_tail 17, (by kernel_rfl)
        change wpList _ _ _ _ _ (World.drew _)
        go_wp2
        go_roundw
        case rel => exact ⟨q + 1, by omega, by go_num, (hb3.setCell (Nat.le_refl _) _).drew, Nat.lt_of_lt_of_le hs3 (gb_setCell w3 ⟨w.heap.size, e, none⟩ (.int .i64 (v1 - v))).size, by
          have := Wr.put (w := w3) HW3.out he' (v1 - v)
          rw [← ST.out] at this
          simp only [Nat.zero_add] at this
          exact this, HF.out⟩
        case measure => simp [intOf]; omega
      · have hno : ¬ leads (Jn : Int) xs fn fl := fun h => hfit (by
          have := h.1 q (by rw [HLN.out]; exact hlt)
          rw [← HV.out, ← HE.out] at this
          exact this)
        have HNO := Lib.hid hno
        have hfit' : v < 0 ∨ y2 < v := by omega
        clear hno hw hfit
        go_wp2_with fail
        go_quiet ((go_at_call 36; first | exact Calls.quiet_of_same ((in_t _ _ _ _ (by omega)).mono fun _ _ h => ⟨h.1, h.2.symm⟩) | exact Calls.quiet_of_same ((in_f _ _ _ _ (by omega)).mono fun _ _ h => ⟨h.1, h.2.symm⟩)))
        go_wp2
        go_ret2
        exact lead_no HNO.out (by repeat (first | assumption | exact Below.refl _ _ | (refine Below.setCell ?_ (by first | omega | (simp; done) | (simp; omega)) _) | apply below_drewN | apply Below.drew | (refine Below.alloc ?_ (by first | omega | (simp; done) | (simp; omega)) _)))
    · obtain rfl : q = n := by omega
      have hfa : fits xs fl xs.length := by rw [HLN.out]; exact hr.out
      have HFA := Lib.hid hfa
      have HW := Lib.hid hw
      have d0 : wr.cell? ⟨b, 0, none⟩ = _ := (hb.cell (p := ⟨b, 0, none⟩) hb0).trans c0
      clear hfa hw
      go_wp2
      go_loop [10] (fun i => ∃ r : Nat, 1 ≤ r ∧ r ≤ Jn ∧ i = .int .i64 (r : Int) ∧ Hid (∀ j : Nat, j < r → 1 ≤ j → (j : Int) ≠ fn → outOf xs fl (j : Int) xs.length = 0)) (fun i => Jn - (intOf i).toNat)
      case atStart => exact ⟨1, by omega, by omega, rfl, fun j h1 h2 => absurd h1 (by omega)⟩
      case round =>
        obtain ⟨r, hr1, hr2, rfl, hz⟩ := hrel
        by_cases hlt2 : r < Jn
        · obtain ⟨c5, f5⟩ := wr_at HW.out hlt2
          rw [lefts_at _ _ _ _ _ hlt2] at c5
          simp only [Nat.zero_add] at c5
          clear f5
          obtain ⟨v0, hv0⟩ : ∃ z, z = outOf xs fl (r : Int) q := ⟨_, rfl⟩
          rw [← hv0] at c5
          have V0 := Lib.hid hv0
          clear hv0
          by_cases hrf : r = fn
          · have e1 : ((r : Int) != (fn : Int)) = false := by simp [hrf]
            have HR := Lib.hid hrf
            clear hrf
            go_wp2
            go_round
            case rel => exact ⟨r + 1, by omega, by omega, by go_num, fun j h1 h2 h3 => by
              by_cases ej : j = r
              · exact absurd (by rw [ej, HR.out]) h3
              · exact hz.out j (by omega) h2 h3⟩
            case measure => simp [intOf]; omega
          · have e1 : ((r : Int) != (fn : Int)) = true := by simp; omega
            have HR := Lib.hid hrf
            clear hrf
            by_cases hv : v0 = 0
            · have e2 : (v0 != 0) = false := by simp [hv]
              have HVV := Lib.hid hv
              clear hv
              go_wp2
              go_round
              case rel => exact ⟨r + 1, by omega, by omega, by go_num, fun j h1 h2 h3 => by
                by_cases ej : j = r
                · rw [ej, HLN.out, ← V0.out]; exact HVV.out
                · exact hz.out j (by omega) h2 h3⟩
              case measure => simp [intOf]; omega
            · have e2 : (v0 != 0) = true := by simp [hv]
              have hno : ¬ leads (Jn : Int) xs fn fl := fun h => hv (by
                rw [V0.out, ← HLN.out]
                exact h.2.1 r (by simpa using hlt2) hr1 (by have := HR.out; omega))
              have HNO := Lib.hid hno
              clear hv hno
              go_wp2
              go_ret2
              exact lead_no HNO.out hb
        · obtain rfl : r = Jn := by omega
          obtain ⟨c5, f5⟩ := wr_at HW.out hf2
          rw [lefts_at _ _ _ _ _ hf2] at c5
          simp only [Nat.zero_add] at c5
          clear f5
          obtain ⟨v0, hv0⟩ : ∃ z, z = outOf xs fl (fn : Int) q := ⟨_, rfl⟩
          rw [← hv0] at c5
          have V0 := Lib.hid hv0
          clear hv0
          go_wp2
          go_quiet (fail)
          go_wp2
          go_ret2
          refine ⟨v0, ?_, fun _ => by rw [V0.out, HLN.out], (by repeat (first | assumption | exact Below.refl _ _ | (refine Below.setCell ?_ (by first | omega | (simp; done) | (simp; omega)) _) | apply below_drewN | apply Below.drew | (refine Below.alloc ?_ (by first | omega | (simp; done) | (simp; omega)) _)))⟩
          have : decide (leads (r : Int) xs fn fl) = decide (v0 ≥ 0) := decide_eq_decide.2 ⟨fun h => by have := h.2.2; rw [HLN.out, ← V0.out] at this; exact this, fun h => ⟨HFA.out, fun j h1 h2 h3 => hz.out j (by simpa using h1) h2 h3, by rw [HLN.out, ← V0.out]; exact h⟩⟩
          rw [this]
          rfl

end Go.Proofs.Ytlibmlbefboolaa
