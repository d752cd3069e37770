/- ReadMill of the model. -/
import Derived.Test.YticbnahndidplaaDoorMlL
import Derived.Test.YticbnahndidplaaDoorMilC
import Derived.Test.YticbnahndidplaaDoorNumS
import Derived.Test.YticbnahndidplaaDoorChars
import Derived.Test.YticbnahndidplaaDoorWFnExactReadDecimal
namespace Go.Proofs.YticbnahndidplaaDoor
open Go.RowKit

theorem zb4 {w V : World} (E : Below (w.heap.size + 1) (w.alloc (.cells #[.int .i64 0, .int .i64 0, .int .i64 0, .int .i64 0] 36)) V) : V.cell? ⟨w.heap.size, 0, none⟩ = some (.int .i64 0) ∧ V.cell? ⟨w.heap.size, 1, none⟩ = some (.int .i64 0) ∧ V.cell? ⟨w.heap.size, 2, none⟩ = some (.int .i64 0) ∧ V.cell? ⟨w.heap.size, 3, none⟩ = some (.int .i64 0) ∧ V.frozen? ⟨w.heap.size, 0, none⟩ = false ∧ V.frozen? ⟨w.heap.size, 1, none⟩ = false ∧ V.frozen? ⟨w.heap.size, 2, none⟩ = false ∧ V.frozen? ⟨w.heap.size, 3, none⟩ = false ∧ w.heap.size < V.heap.size :=
  ⟨(E.cell (p := ⟨w.heap.size, 0, none⟩) (Nat.lt_succ_self _)).trans (by first | (simp; done) | go_simp), (E.cell (p := ⟨w.heap.size, 1, none⟩) (Nat.lt_succ_self _)).trans (by first | (simp; done) | go_simp), (E.cell (p := ⟨w.heap.size, 2, none⟩) (Nat.lt_succ_self _)).trans (by first | (simp; done) | go_simp), (E.cell (p := ⟨w.heap.size, 3, none⟩) (Nat.lt_succ_self _)).trans (by first | (simp; done) | go_simp), (E.frozen (p := ⟨w.heap.size, 0, none⟩) (Nat.lt_succ_self _)).trans (by first | (simp; done) | go_simp), (E.frozen (p := ⟨w.heap.size, 1, none⟩) (Nat.lt_succ_self _)).trans (by first | (simp; done) | go_simp), (E.frozen (p := ⟨w.heap.size, 2, none⟩) (Nat.lt_succ_self _)).trans (by first | (simp; done) | go_simp), (E.frozen (p := ⟨w.heap.size, 3, none⟩) (Nat.lt_succ_self _)).trans (by first | (simp; done) | go_simp), by have := E.size; (try simp at this); omega⟩
theorem zbD {w V : World} (E : Below (w.heap.size + 1) (w.alloc (.cells #[.int .i64 0, .int .i64 0, .int .i64 0, .int .i64 0] 36)) V) : Below w.heap.size w V := ((Below.alloc (Below.refl _ _) (Nat.le_refl _) _ : Below w.heap.size w (w.alloc (.cells #[.int .i64 0, .int .i64 0, .int .i64 0, .int .i64 0] 36)))).trans (E.mono (by omega))
theorem num5 (s : ByteArray) (hs : s.size ≤ 1048576) : ∃ (v : Int) (b : Bool), (∀ W, Calls Tryd.prog 34 #[.string s] W fun e w' => e = .returned (.tuple #[.int .i64 v, .bool b]) ∧ Below W.heap.size W w') ∧ (b = true → DecOf s.data.toList v) ∧ (b = false → ∀ n, ¬ DecOf s.data.toList n) := by
  obtain ⟨r, hr⟩ := dec_res s.data.toList
  refine ⟨r.getD 0, r.isSome, fun W => num_spec s W hs r hr, fun h => ?_, fun h n hn => ?_⟩
  · cases r with
    | none => cases h
    | some n => exact (hr n).1 rfl
  · have := (hr n).2 hn
    subst this
    cases h

set_option maxRecDepth 100000 in
set_option maxHeartbeats 6400000 in
theorem rm_spec (s : ByteArray) (w : World) (hs : s.size ≤ 1048576) (res : Option (Int × Int × Int × Int)) (hres : ∀ a b c d, res = some (a, b, c, d) ↔ mlOk a b c d ∧ s.data.toList = mlL a b c d) :
    Calls Tryd.prog 21 #[.string s] w fun e w' => e = .returned (.tuple #[.agg #[.int .i64 (res.getD (0, 0, 0, 0)).1, .int .i64 (res.getD (0, 0, 0, 0)).2.1, .int .i64 (res.getD (0, 0, 0, 0)).2.2.1, .int .i64 (res.getD (0, 0, 0, 0)).2.2.2], .bool res.isSome]) ∧ Below w.heap.size w w' := by
  have NO := Lib.hid (show (∀ p0 p1 p2 p3 p4 p5 q0 q1 a b c d, MlK s p0 p1 p2 p3 p4 p5 q0 q1 a b c d → mlOk a b c d → False) → res = none from fun h => by
    cases hr : res with
    | none => rfl
    | some n =>
      obtain ⟨a, b, c, d⟩ := n
      obtain ⟨h1, h2⟩ := (hres a b c d).1 hr
      exact absurd (h _ _ _ _ _ _ _ _ _ _ _ _ (mlk_ok h1 h2) h1) id)
  have YES := Lib.hid (show ∀ p0 p1 p2 p3 p4 p5 q0 q1 a b c d, MlK s p0 p1 p2 p3 p4 p5 q0 q1 a b c d → mlOk a b c d → res = some (a, b, c, d) from fun p0 p1 p2 p3 p4 p5 q0 q1 a b c d k h => (hres a b c d).2 ⟨h, mlk_val k⟩)
  clear hres
  go_enter Tryd.func21, Tryd.ntmps21
  go_wp2_with fail
  refine (l01Split_t s 32 _ hs (by omega)).mono ?_
  rintro q1 W1 ⟨A, cc, rfl, b1, hw⟩
  have E1 : Below (w.heap.size + 1) (w.alloc (.cells #[.int .i64 0, .int .i64 0, .int .i64 0, .int .i64 0] 36)) W1 := b1.mono (by first | omega | (simp; done) | (simp; omega))
  clear b1
  obtain ⟨z0, z1, z2, z3, f0, f1, f2, f3, zsL⟩ := zb4 E1
  have D1 := Lib.hid (zbD E1)
  obtain ⟨P, hP⟩ : ∃ P, P = parts s 32 := ⟨_, rfl⟩
  have HP := Lib.hid hP
  rw [← hP] at hw ⊢
  have HRd := Lib.hid hw.rd
  clear hw hP
  by_cases c5 : P.length = 6
  · obtain ⟨p0, p1, p2, p3, p4, p5, rfl⟩ : ∃ p0 p1 p2 p3 p4 p5, P = [p0, p1, p2, p3, p4, p5] := by
      match P, c5 with
      | [a, b, c, d, e, f], _ => exact ⟨a, b, c, d, e, f, rfl⟩
    obtain ⟨bb, oo, rfl, hbb1, hc⟩ := HRd.out.2 (by simp)
    have t0 : W1.cell? ⟨bb, oo, none⟩ = some (.string p0) := hc 0 (by simp)
    have ta1 : W1.cell? ⟨bb, oo + 1, none⟩ = some (.string p1) := hc 1 (by simp)
    have t2 : W1.cell? ⟨bb, oo + 2, none⟩ = some (.string p2) := hc 2 (by simp)
    have tb1 : W1.cell? ⟨bb, oo + 3, none⟩ = some (.string p3) := hc 3 (by simp)
    have t4 : W1.cell? ⟨bb, oo + 4, none⟩ = some (.string p4) := hc 4 (by simp)
    have t5 : W1.cell? ⟨bb, oo + 5, none⟩ = some (.string p5) := hc 5 (by simp)
    clear hc
    have P0 := Lib.hid (show ∀ x0 x1 x2 x3 x4 x5 y0 y1 a b c d, MlK s x0 x1 x2 x3 x4 x5 y0 y1 a b c d → p0 = x0 ∧ p1 = x1 ∧ p2 = x2 ∧ p3 = x3 ∧ p4 = x4 ∧ p5 = x5 from fun x0 x1 x2 x3 x4 x5 y0 y1 a b c d k => by
      have e := HP.out.trans k.pa
      simpa using e)
    have bads : (p0.data.toList = [108, 105, 102, 116] → p2.data.toList = [114, 97, 116, 101] → p4.data.toList = [119, 105, 110, 100] → False) → res = none := fun h => NO.out fun x0 x1 x2 x3 x4 x5 y0 y1 a b c d k _ => by
      obtain ⟨rfl, rfl, rfl, rfl, rfl, rfl⟩ := P0.out _ _ _ _ _ _ _ _ _ _ _ _ k
      exact h k.p0 k.p2 k.p4
    by_cases c1 : p0 = ⟨#[108, 105, 102, 116]⟩
    · have g1 := strT5 c1
      by_cases c2 : p2 = ⟨#[114, 97, 116, 101]⟩
      · have g2 := strT5 c2
        by_cases c3 : p4 = ⟨#[119, 105, 110, 100]⟩
        · have g3 := strT5 c3
          clear bads
          have hs1 := psz HP.out p1 (by simp)
          have hs3 := psz HP.out p3 (by simp)
          have hs5 := psz HP.out p5 (by simp)
          have HK := Lib.hid (show p0.data.toList = [108, 105, 102, 116] ∧ p2.data.toList = [114, 97, 116, 101] ∧ p4.data.toList = [119, 105, 110, 100] from ⟨by rw [c1], by rw [c2], by rw [c3]⟩)
          clear c1 c2 c3
          go_wp2_with fail
          refine (l01Split_t p5 45 _ (by omega) (by omega)).mono ?_
          rintro q2 W2 ⟨B, cb, rfl, b2, hw2⟩
          have E2 : Below (w.heap.size + 1) (w.alloc (.cells #[.int .i64 0, .int .i64 0, .int .i64 0, .int .i64 0] 36)) W2 := E1.trans (b2.mono (by omega))
          have ta2 := (b2.cell (p := ⟨bb, oo + 1, none⟩) hbb1).trans ta1
          have tb2 := (b2.cell (p := ⟨bb, oo + 3, none⟩) hbb1).trans tb1
          have hbb2 : bb < W2.heap.size := Nat.lt_of_lt_of_le hbb1 b2.size
          clear b2 t0 t2 t4 t5 ta1 tb1 g1 g2 g3 z0 z1 z2 z3 f0 f1 f2 f3 zsL
          obtain ⟨z0, z1, z2, z3, f0, f1, f2, f3, zsL⟩ := zb4 E2
          have D2 := Lib.hid (zbD E2)
          obtain ⟨Q, hQ⟩ : ∃ Q, Q = parts p5 45 := ⟨_, rfl⟩
          have HQ := Lib.hid hQ
          rw [← hQ] at hw2 ⊢
          have HRq := Lib.hid hw2.rd
          clear hw2 hQ
          by_cases c6 : Q.length = 2
          · obtain ⟨y0, y1, rfl⟩ : ∃ y0 y1, Q = [y0, y1] := by
              match Q, c6 with
              | [a, b], _ => exact ⟨a, b, rfl⟩
            obtain ⟨bq, oq, rfl, hbq2, hcq⟩ := HRq.out.2 (by simp)
            have tc2 : W2.cell? ⟨bq, oq, none⟩ = some (.string y0) := hcq 0 (by simp)
            have td2 : W2.cell? ⟨bq, oq + 1, none⟩ = some (.string y1) := hcq 1 (by simp)
            clear hcq
            have hy0 := psz HQ.out y0 (by simp)
            have hy1 := psz HQ.out y1 (by simp)
            obtain ⟨va, ba, na, na1, na2⟩ := num5 p1 (by omega)
            obtain ⟨vb, bb', nb, nb1, nb2⟩ := num5 p3 (by omega)
            obtain ⟨vc, bc, nc, nc1, nc2⟩ := num5 y0 (by omega)
            obtain ⟨vd, bd, nd, nd1, nd2⟩ := num5 y1 (by omega)
            have NA := Lib.hid na
            have NB := Lib.hid nb
            have NC := Lib.hid nc
            have ND := Lib.hid nd
            have GOOD := Lib.hid (show ba = true → bb' = true → bc = true → bd = true → MlK s p0 p1 p2 p3 p4 p5 y0 y1 va vb vc vd from fun h1 h2 h3 h4 => ⟨HP.out.symm, HQ.out.symm, HK.out.1, HK.out.2.1, HK.out.2.2, na1 h1, nb1 h2, nc1 h3, nd1 h4⟩)
            have BADN := Lib.hid (show (ba = true → bb' = true → bc = true → bd = true → mlOk va vb vc vd → False) → res = none from fun h => NO.out fun x0 x1 x2 x3 x4 x5 u0 u1 a b c d k ht => by
              obtain ⟨rfl, rfl, rfl, rfl, rfl, rfl⟩ := P0.out _ _ _ _ _ _ _ _ _ _ _ _ k
              obtain ⟨rfl, rfl⟩ : y0 = u0 ∧ y1 = u1 := by have e := HQ.out.trans k.qa; simpa using e
              cases hba : ba with
              | false => exact na2 hba a k.na
              | true =>
                cases hbb' : bb' with
                | false => exact nb2 hbb' b k.nb
                | true =>
                  cases hbc : bc with
                  | false => exact nc2 hbc c k.nc
                  | true =>
                    cases hbd : bd with
                    | false => exact nd2 hbd d k.nd
                    | true =>
                      obtain rfl := (na1 hba).inj k.na
                      obtain rfl := (nb1 hbb').inj k.nb
                      obtain rfl := (nc1 hbc).inj k.nc
                      obtain rfl := (nd1 hbd).inj k.nd
                      exact h hba hbb' hbc hbd ht)
            clear na nb nc nd na1 na2 nb1 nb2 nc1 nc2 nd1 nd2 z0 z1 z2 z3 f0 f1 f2 f3
            have zq2 := zsL
            clear zsL
            go_wp2_with fail
            refine (NA.out _).mono ?_
            rintro e3 W3 ⟨rfl, b3⟩
            have E3 := E2.trans (b3.mono (by omega))
            have tb3 := (b3.cell (p := ⟨bb, oo + 3, none⟩) hbb2).trans tb2
            have tc3 := (b3.cell (p := ⟨bq, oq, none⟩) hbq2).trans tc2
            have td3 := (b3.cell (p := ⟨bq, oq + 1, none⟩) hbq2).trans td2
            have hbb3 : bb < W3.heap.size := Nat.lt_of_lt_of_le hbb2 b3.size
            have hbq3 : bq < W3.heap.size := Nat.lt_of_lt_of_le hbq2 b3.size
            have zq3 := (zb4 E3).2.2.2.2.2.2.2.2
            clear b3
            go_wp2_with fail
            refine (NB.out _).mono ?_
            rintro e4 W4 ⟨rfl, b4⟩
            have E4 := E3.trans (b4.mono (by omega))
            have tc4 := (b4.cell (p := ⟨bq, oq, none⟩) hbq3).trans tc3
            have td4 := (b4.cell (p := ⟨bq, oq + 1, none⟩) hbq3).trans td3
            have hbq4 : bq < W4.heap.size := Nat.lt_of_lt_of_le hbq3 b4.size
            have zq4 := (zb4 E4).2.2.2.2.2.2.2.2
            clear b4
            go_wp2_with fail
            refine (NC.out _).mono ?_
            rintro e5 W5 ⟨rfl, b5⟩
            have E5 := E4.trans (b5.mono (by omega))
            have td5 := (b5.cell (p := ⟨bq, oq + 1, none⟩) hbq4).trans td4
            have hbq5 : bq < W5.heap.size := Nat.lt_of_lt_of_le hbq4 b5.size
            have zq5 := (zb4 E5).2.2.2.2.2.2.2.2
            clear b5
            go_wp2_with fail
            refine (ND.out _).mono ?_
            rintro e6 W6 ⟨rfl, b6⟩
            have E6 := E5.trans (b6.mono (by omega))
            have zq6 := (zb4 E6).2.2.2.2.2.2.2.2
            clear b6
            have A6 : Below W6.heap.size W6 (W6.alloc (.cells #[.int .i64 va, .int .i64 vb, .int .i64 vc, .int .i64 vd] 36)) := Below.alloc (Below.refl _ _) (Nat.le_refl _) _
            have E7 : Below (w.heap.size + 1) (w.alloc (.cells #[.int .i64 0, .int .i64 0, .int .i64 0, .int .i64 0] 36)) (W6.alloc (.cells #[.int .i64 va, .int .i64 vb, .int .i64 vc, .int .i64 vd] 36)) := E6.trans (A6.mono (by omega))
            have sA := A6.size
            clear ta2 tb2 tc2 td2 tb3 tc3 td3 tc4 td4 td5
            by_cases hall : ba = true ∧ bb' = true ∧ bc = true ∧ bd = true
            · obtain ⟨rfl, rfl, rfl, rfl⟩ := hall
              have K5 := Lib.hid (GOOD.out rfl rfl rfl rfl)
              obtain ⟨z0, z1, z2, z3, f0, f1, f2, f3, zsL⟩ := zb4 E7
              by_cases ht : mlOk va vb vc vd
              · have hn : res = some (va, vb, vc, vd) := YES.out _ _ _ _ _ _ _ _ _ _ _ _ K5.out ht
                subst hn
                have HT := Lib.hid (show true = decide (mlOk va vb vc vd) from (decide_eq_true ht).symm)
                clear ht
                go_wp2_with fail
                refine (mlS_any va vb vc vd _ true HT.out).mono ?_
                rintro e8 W8 ⟨rfl, b8⟩
                have E8 := E7.trans (b8.mono (by omega))
                have y0' := (b8.cell (p := ⟨W6.heap.size, 0, none⟩) (by first | omega | (simp; done) | (simp; omega))).trans (show (W6.alloc (.cells #[.int .i64 va, .int .i64 vb, .int .i64 vc, .int .i64 vd] 36)).cell? ⟨W6.heap.size, 0, none⟩ = some (.int .i64 va) by simp)
                have y1' := (b8.cell (p := ⟨W6.heap.size, 1, none⟩) (by first | omega | (simp; done) | (simp; omega))).trans (show (W6.alloc (.cells #[.int .i64 va, .int .i64 vb, .int .i64 vc, .int .i64 vd] 36)).cell? ⟨W6.heap.size, 1, none⟩ = some (.int .i64 vb) by simp)
                have y2' := (b8.cell (p := ⟨W6.heap.size, 2, none⟩) (by first | omega | (simp; done) | (simp; omega))).trans (show (W6.alloc (.cells #[.int .i64 va, .int .i64 vb, .int .i64 vc, .int .i64 vd] 36)).cell? ⟨W6.heap.size, 2, none⟩ = some (.int .i64 vc) by simp)
                have y3' := (b8.cell (p := ⟨W6.heap.size, 3, none⟩) (by first | omega | (simp; done) | (simp; omega))).trans (show (W6.alloc (.cells #[.int .i64 va, .int .i64 vb, .int .i64 vc, .int .i64 vd] 36)).cell? ⟨W6.heap.size, 3, none⟩ = some (.int .i64 vd) by simp)
                clear z0 z1 z2 z3 f0 f1 f2 f3 zsL
                obtain ⟨z0, z1, z2, z3, f0, f1, f2, f3, zsL⟩ := zb4 E8
                have D8 := Lib.hid (zbD E8)
                clear b8
                go_wp2
                have PZ := four_back (w := W8) (r := w.heap.size) (v0 := .int .i64 va) (v1 := .int .i64 vb) (v2 := .int .i64 vc) (v3 := .int .i64 vd) z0 z1 z2 z3
                have DZ : Below w.heap.size w ((((W8.setCell ⟨w.heap.size, 0, none⟩ (.int .i64 va)).setCell ⟨w.heap.size, 1, none⟩ (.int .i64 vb)).setCell ⟨w.heap.size, 2, none⟩ (.int .i64 vc)).setCell ⟨w.heap.size, 3, none⟩ (.int .i64 vd)) := ((((D8.out).setCell (p := ⟨w.heap.size, 0, none⟩) (Nat.le_refl _) _).setCell (p := ⟨w.heap.size, 1, none⟩) (Nat.le_refl _) _).setCell (p := ⟨w.heap.size, 2, none⟩) (Nat.le_refl _) _).setCell (p := ⟨w.heap.size, 3, none⟩) (Nat.le_refl _) _
                generalize ((((W8.setCell ⟨w.heap.size, 0, none⟩ (.int .i64 va)).setCell ⟨w.heap.size, 1, none⟩ (.int .i64 vb)).setCell ⟨w.heap.size, 2, none⟩ (.int .i64 vc)).setCell ⟨w.heap.size, 3, none⟩ (.int .i64 vd)) = Zw at PZ DZ ⊢
                obtain ⟨p0', p1', p2', p3'⟩ := PZ
                exact bodyPost_ret (v := .tuple #[.agg #[.int .i64 va, .int .i64 vb, .int .i64 vc, .int .i64 vd], .bool true]) (by simp [results, Tryd.results21, go_sem, p0', p1', p2', p3']) rfl ⟨rfl, DZ⟩
              · have hn : res = none := BADN.out fun _ _ _ _ h => ht h
                subst hn
                have HT := Lib.hid (show false = decide (mlOk va vb vc vd) from (decide_eq_false ht).symm)
                clear ht
                go_wp2_with fail
                refine (mlS_any va vb vc vd _ false HT.out).mono ?_
                rintro e8 W8 ⟨rfl, b8⟩
                have E8 := E7.trans (b8.mono (by omega))
                have y0' := (b8.cell (p := ⟨W6.heap.size, 0, none⟩) (by first | omega | (simp; done) | (simp; omega))).trans (show (W6.alloc (.cells #[.int .i64 va, .int .i64 vb, .int .i64 vc, .int .i64 vd] 36)).cell? ⟨W6.heap.size, 0, none⟩ = some (.int .i64 va) by simp)
                have y1' := (b8.cell (p := ⟨W6.heap.size, 1, none⟩) (by first | omega | (simp; done) | (simp; omega))).trans (show (W6.alloc (.cells #[.int .i64 va, .int .i64 vb, .int .i64 vc, .int .i64 vd] 36)).cell? ⟨W6.heap.size, 1, none⟩ = some (.int .i64 vb) by simp)
                have y2' := (b8.cell (p := ⟨W6.heap.size, 2, none⟩) (by first | omega | (simp; done) | (simp; omega))).trans (show (W6.alloc (.cells #[.int .i64 va, .int .i64 vb, .int .i64 vc, .int .i64 vd] 36)).cell? ⟨W6.heap.size, 2, none⟩ = some (.int .i64 vc) by simp)
                have y3' := (b8.cell (p := ⟨W6.heap.size, 3, none⟩) (by first | omega | (simp; done) | (simp; omega))).trans (show (W6.alloc (.cells #[.int .i64 va, .int .i64 vb, .int .i64 vc, .int .i64 vd] 36)).cell? ⟨W6.heap.size, 3, none⟩ = some (.int .i64 vd) by simp)
                clear z0 z1 z2 z3 f0 f1 f2 f3 zsL
                obtain ⟨z0, z1, z2, z3, f0, f1, f2, f3, zsL⟩ := zb4 E8
                have D8 := Lib.hid (zbD E8)
                clear b8
                go_wp2
                have PZ := four_back (w := W8) (r := w.heap.size) (v0 := .int .i64 0) (v1 := .int .i64 0) (v2 := .int .i64 0) (v3 := .int .i64 0) z0 z1 z2 z3
                have DZ : Below w.heap.size w ((((W8.setCell ⟨w.heap.size, 0, none⟩ (.int .i64 0)).setCell ⟨w.heap.size, 1, none⟩ (.int .i64 0)).setCell ⟨w.heap.size, 2, none⟩ (.int .i64 0)).setCell ⟨w.heap.size, 3, none⟩ (.int .i64 0)) := ((((D8.out).setCell (p := ⟨w.heap.size, 0, none⟩) (Nat.le_refl _) _).setCell (p := ⟨w.heap.size, 1, none⟩) (Nat.le_refl _) _).setCell (p := ⟨w.heap.size, 2, none⟩) (Nat.le_refl _) _).setCell (p := ⟨w.heap.size, 3, none⟩) (Nat.le_refl _) _
                generalize ((((W8.setCell ⟨w.heap.size, 0, none⟩ (.int .i64 0)).setCell ⟨w.heap.size, 1, none⟩ (.int .i64 0)).setCell ⟨w.heap.size, 2, none⟩ (.int .i64 0)).setCell ⟨w.heap.size, 3, none⟩ (.int .i64 0)) = Zw at PZ DZ ⊢
                obtain ⟨p0', p1', p2', p3'⟩ := PZ
                exact bodyPost_ret (v := .tuple #[.agg #[.int .i64 0, .int .i64 0, .int .i64 0, .int .i64 0], .bool false]) (by simp [results, Tryd.results21, go_sem, p0', p1', p2', p3']) rfl ⟨rfl, DZ⟩
            · have hn : res = none := BADN.out fun h1 h2 h3 h4 _ => hall ⟨h1, h2, h3, h4⟩
              subst hn
              have D6 := Lib.hid (zbD E6)
              obtain ⟨z0, z1, z2, z3, f0, f1, f2, f3, zsL⟩ := zb4 E6
              clear E7 A6 sA
              cases ba
              · go_wp2
                have PZ := four_back (w := W6) (r := w.heap.size) (v0 := .int .i64 0) (v1 := .int .i64 0) (v2 := .int .i64 0) (v3 := .int .i64 0) z0 z1 z2 z3
                have DZ : Below w.heap.size w ((((W6.setCell ⟨w.heap.size, 0, none⟩ (.int .i64 0)).setCell ⟨w.heap.size, 1, none⟩ (.int .i64 0)).setCell ⟨w.heap.size, 2, none⟩ (.int .i64 0)).setCell ⟨w.heap.size, 3, none⟩ (.int .i64 0)) := ((((D6.out).setCell (p := ⟨w.heap.size, 0, none⟩) (Nat.le_refl _) _).setCell (p := ⟨w.heap.size, 1, none⟩) (Nat.le_refl _) _).setCell (p := ⟨w.heap.size, 2, none⟩) (Nat.le_refl _) _).setCell (p := ⟨w.heap.size, 3, none⟩) (Nat.le_refl _) _
                have SZ : w.heap.size < (((((W6.setCell ⟨w.heap.size, 0, none⟩ (.int .i64 0)).setCell ⟨w.heap.size, 1, none⟩ (.int .i64 0)).setCell ⟨w.heap.size, 2, none⟩ (.int .i64 0)).setCell ⟨w.heap.size, 3, none⟩ (.int .i64 0))).heap.size := by simpa [World.setCell] using zsL
                generalize ((((W6.setCell ⟨w.heap.size, 0, none⟩ (.int .i64 0)).setCell ⟨w.heap.size, 1, none⟩ (.int .i64 0)).setCell ⟨w.heap.size, 2, none⟩ (.int .i64 0)).setCell ⟨w.heap.size, 3, none⟩ (.int .i64 0)) = Zw at PZ DZ SZ ⊢
                obtain ⟨p0', p1', p2', p3'⟩ := PZ
                have AZ : Below Zw.heap.size Zw (Zw.alloc (.cells #[.int .i64 va, .int .i64 vb, .int .i64 vc, .int .i64 vd] 36)) := Below.alloc (Below.refl _ _) (Nat.le_refl _) _
                have r0' := (AZ.cell (p := ⟨w.heap.size, 0, none⟩) SZ).trans p0'
                have r1' := (AZ.cell (p := ⟨w.heap.size, 1, none⟩) SZ).trans p1'
                have r2' := (AZ.cell (p := ⟨w.heap.size, 2, none⟩) SZ).trans p2'
                have r3' := (AZ.cell (p := ⟨w.heap.size, 3, none⟩) SZ).trans p3'
                have DZ2 := DZ.trans (AZ.mono (Nat.le_of_lt SZ))
                generalize Zw.alloc (.cells #[.int .i64 va, .int .i64 vb, .int .i64 vc, .int .i64 vd] 36) = Zw2 at r0' r1' r2' r3' DZ2 ⊢
                exact bodyPost_ret (v := .tuple #[.agg #[.int .i64 0, .int .i64 0, .int .i64 0, .int .i64 0], .bool false]) (by simp [results, Tryd.results21, go_sem, r0', r1', r2', r3']) rfl ⟨rfl, DZ2⟩
              · cases bb'
                · go_wp2
                  have PZ := four_back (w := W6) (r := w.heap.size) (v0 := .int .i64 0) (v1 := .int .i64 0) (v2 := .int .i64 0) (v3 := .int .i64 0) z0 z1 z2 z3
                  have DZ : Below w.heap.size w ((((W6.setCell ⟨w.heap.size, 0, none⟩ (.int .i64 0)).setCell ⟨w.heap.size, 1, none⟩ (.int .i64 0)).setCell ⟨w.heap.size, 2, none⟩ (.int .i64 0)).setCell ⟨w.heap.size, 3, none⟩ (.int .i64 0)) := ((((D6.out).setCell (p := ⟨w.heap.size, 0, none⟩) (Nat.le_refl _) _).setCell (p := ⟨w.heap.size, 1, none⟩) (Nat.le_refl _) _).setCell (p := ⟨w.heap.size, 2, none⟩) (Nat.le_refl _) _).setCell (p := ⟨w.heap.size, 3, none⟩) (Nat.le_refl _) _
                  have SZ : w.heap.size < (((((W6.setCell ⟨w.heap.size, 0, none⟩ (.int .i64 0)).setCell ⟨w.heap.size, 1, none⟩ (.int .i64 0)).setCell ⟨w.heap.size, 2, none⟩ (.int .i64 0)).setCell ⟨w.heap.size, 3, none⟩ (.int .i64 0))).heap.size := by simpa [World.setCell] using zsL
                  generalize ((((W6.setCell ⟨w.heap.size, 0, none⟩ (.int .i64 0)).setCell ⟨w.heap.size, 1, none⟩ (.int .i64 0)).setCell ⟨w.heap.size, 2, none⟩ (.int .i64 0)).setCell ⟨w.heap.size, 3, none⟩ (.int .i64 0)) = Zw at PZ DZ SZ ⊢
                  obtain ⟨p0', p1', p2', p3'⟩ := PZ
                  have AZ : Below Zw.heap.size Zw (Zw.alloc (.cells #[.int .i64 va, .int .i64 vb, .int .i64 vc, .int .i64 vd] 36)) := Below.alloc (Below.refl _ _) (Nat.le_refl _) _
                  have r0' := (AZ.cell (p := ⟨w.heap.size, 0, none⟩) SZ).trans p0'
                  have r1' := (AZ.cell (p := ⟨w.heap.size, 1, none⟩) SZ).trans p1'
                  have r2' := (AZ.cell (p := ⟨w.heap.size, 2, none⟩) SZ).trans p2'
                  have r3' := (AZ.cell (p := ⟨w.heap.size, 3, none⟩) SZ).trans p3'
                  have DZ2 := DZ.trans (AZ.mono (Nat.le_of_lt SZ))
                  generalize Zw.alloc (.cells #[.int .i64 va, .int .i64 vb, .int .i64 vc, .int .i64 vd] 36) = Zw2 at r0' r1' r2' r3' DZ2 ⊢
                  exact bodyPost_ret (v := .tuple #[.agg #[.int .i64 0, .int .i64 0, .int .i64 0, .int .i64 0], .bool false]) (by simp [results, Tryd.results21, go_sem, r0', r1', r2', r3']) rfl ⟨rfl, DZ2⟩
                · cases bc
                  · go_wp2
                    have PZ := four_back (w := W6) (r := w.heap.size) (v0 := .int .i64 0) (v1 := .int .i64 0) (v2 := .int .i64 0) (v3 := .int .i64 0) z0 z1 z2 z3
                    have DZ : Below w.heap.size w ((((W6.setCell ⟨w.heap.size, 0, none⟩ (.int .i64 0)).setCell ⟨w.heap.size, 1, none⟩ (.int .i64 0)).setCell ⟨w.heap.size, 2, none⟩ (.int .i64 0)).setCell ⟨w.heap.size, 3, none⟩ (.int .i64 0)) := ((((D6.out).setCell (p := ⟨w.heap.size, 0, none⟩) (Nat.le_refl _) _).setCell (p := ⟨w.heap.size, 1, none⟩) (Nat.le_refl _) _).setCell (p := ⟨w.heap.size, 2, none⟩) (Nat.le_refl _) _).setCell (p := ⟨w.heap.size, 3, none⟩) (Nat.le_refl _) _
                    have SZ : w.heap.size < (((((W6.setCell ⟨w.heap.size, 0, none⟩ (.int .i64 0)).setCell ⟨w.heap.size, 1, none⟩ (.int .i64 0)).setCell ⟨w.heap.size, 2, none⟩ (.int .i64 0)).setCell ⟨w.heap.size, 3, none⟩ (.int .i64 0))).heap.size := by simpa [World.setCell] using zsL
                    generalize ((((W6.setCell ⟨w.heap.size, 0, none⟩ (.int .i64 0)).setCell ⟨w.heap.size, 1, none⟩ (.int .i64 0)).setCell ⟨w.heap.size, 2, none⟩ (.int .i64 0)).setCell ⟨w.heap.size, 3, none⟩ (.int .i64 0)) = Zw at PZ DZ SZ ⊢
                    obtain ⟨p0', p1', p2', p3'⟩ := PZ
                    have AZ : Below Zw.heap.size Zw (Zw.alloc (.cells #[.int .i64 va, .int .i64 vb, .int .i64 vc, .int .i64 vd] 36)) := Below.alloc (Below.refl _ _) (Nat.le_refl _) _
                    have r0' := (AZ.cell (p := ⟨w.heap.size, 0, none⟩) SZ).trans p0'
                    have r1' := (AZ.cell (p := ⟨w.heap.size, 1, none⟩) SZ).trans p1'
                    have r2' := (AZ.cell (p := ⟨w.heap.size, 2, none⟩) SZ).trans p2'
                    have r3' := (AZ.cell (p := ⟨w.heap.size, 3, none⟩) SZ).trans p3'
                    have DZ2 := DZ.trans (AZ.mono (Nat.le_of_lt SZ))
                    generalize Zw.alloc (.cells #[.int .i64 va, .int .i64 vb, .int .i64 vc, .int .i64 vd] 36) = Zw2 at r0' r1' r2' r3' DZ2 ⊢
                    exact bodyPost_ret (v := .tuple #[.agg #[.int .i64 0, .int .i64 0, .int .i64 0, .int .i64 0], .bool false]) (by simp [results, Tryd.results21, go_sem, r0', r1', r2', r3']) rfl ⟨rfl, DZ2⟩
                  · cases bd
                    · go_wp2
                      have PZ := four_back (w := W6) (r := w.heap.size) (v0 := .int .i64 0) (v1 := .int .i64 0) (v2 := .int .i64 0) (v3 := .int .i64 0) z0 z1 z2 z3
                      have DZ : Below w.heap.size w ((((W6.setCell ⟨w.heap.size, 0, none⟩ (.int .i64 0)).setCell ⟨w.heap.size, 1, none⟩ (.int .i64 0)).setCell ⟨w.heap.size, 2, none⟩ (.int .i64 0)).setCell ⟨w.heap.size, 3, none⟩ (.int .i64 0)) := ((((D6.out).setCell (p := ⟨w.heap.size, 0, none⟩) (Nat.le_refl _) _).setCell (p := ⟨w.heap.size, 1, none⟩) (Nat.le_refl _) _).setCell (p := ⟨w.heap.size, 2, none⟩) (Nat.le_refl _) _).setCell (p := ⟨w.heap.size, 3, none⟩) (Nat.le_refl _) _
                      have SZ : w.heap.size < (((((W6.setCell ⟨w.heap.size, 0, none⟩ (.int .i64 0)).setCell ⟨w.heap.size, 1, none⟩ (.int .i64 0)).setCell ⟨w.heap.size, 2, none⟩ (.int .i64 0)).setCell ⟨w.heap.size, 3, none⟩ (.int .i64 0))).heap.size := by simpa [World.setCell] using zsL
                      generalize ((((W6.setCell ⟨w.heap.size, 0, none⟩ (.int .i64 0)).setCell ⟨w.heap.size, 1, none⟩ (.int .i64 0)).setCell ⟨w.heap.size, 2, none⟩ (.int .i64 0)).setCell ⟨w.heap.size, 3, none⟩ (.int .i64 0)) = Zw at PZ DZ SZ ⊢
                      obtain ⟨p0', p1', p2', p3'⟩ := PZ
                      have AZ : Below Zw.heap.size Zw (Zw.alloc (.cells #[.int .i64 va, .int .i64 vb, .int .i64 vc, .int .i64 vd] 36)) := Below.alloc (Below.refl _ _) (Nat.le_refl _) _
                      have r0' := (AZ.cell (p := ⟨w.heap.size, 0, none⟩) SZ).trans p0'
                      have r1' := (AZ.cell (p := ⟨w.heap.size, 1, none⟩) SZ).trans p1'
                      have r2' := (AZ.cell (p := ⟨w.heap.size, 2, none⟩) SZ).trans p2'
                      have r3' := (AZ.cell (p := ⟨w.heap.size, 3, none⟩) SZ).trans p3'
                      have DZ2 := DZ.trans (AZ.mono (Nat.le_of_lt SZ))
                      generalize Zw.alloc (.cells #[.int .i64 va, .int .i64 vb, .int .i64 vc, .int .i64 vd] 36) = Zw2 at r0' r1' r2' r3' DZ2 ⊢
                      exact bodyPost_ret (v := .tuple #[.agg #[.int .i64 0, .int .i64 0, .int .i64 0, .int .i64 0], .bool false]) (by simp [results, Tryd.results21, go_sem, r0', r1', r2', r3']) rfl ⟨rfl, DZ2⟩
                    · exact absurd ⟨rfl, rfl, rfl, rfl⟩ hall
          · have c6' : ((Q.length : Int) != 2) = true := by simp; omega
            have hn : res = none := NO.out fun x0 x1 x2 x3 x4 x5 u0 u1 a b c d k _ => by
              obtain ⟨rfl, rfl, rfl, rfl, rfl, rfl⟩ := P0.out _ _ _ _ _ _ _ _ _ _ _ _ k
              have := HQ.out.trans k.qa
              rw [this] at c6
              exact c6 rfl
            subst hn
            go_wp2_with fail
            have PZ := four_back (w := W2) (r := w.heap.size) (v0 := .int .i64 0) (v1 := .int .i64 0) (v2 := .int .i64 0) (v3 := .int .i64 0) z0 z1 z2 z3
            have DZ : Below w.heap.size w ((((W2.setCell ⟨w.heap.size, 0, none⟩ (.int .i64 0)).setCell ⟨w.heap.size, 1, none⟩ (.int .i64 0)).setCell ⟨w.heap.size, 2, none⟩ (.int .i64 0)).setCell ⟨w.heap.size, 3, none⟩ (.int .i64 0)) := ((((D2.out).setCell (p := ⟨w.heap.size, 0, none⟩) (Nat.le_refl _) _).setCell (p := ⟨w.heap.size, 1, none⟩) (Nat.le_refl _) _).setCell (p := ⟨w.heap.size, 2, none⟩) (Nat.le_refl _) _).setCell (p := ⟨w.heap.size, 3, none⟩) (Nat.le_refl _) _
            generalize ((((W2.setCell ⟨w.heap.size, 0, none⟩ (.int .i64 0)).setCell ⟨w.heap.size, 1, none⟩ (.int .i64 0)).setCell ⟨w.heap.size, 2, none⟩ (.int .i64 0)).setCell ⟨w.heap.size, 3, none⟩ (.int .i64 0)) = Zw at PZ DZ ⊢
            obtain ⟨p0', p1', p2', p3'⟩ := PZ
            exact bodyPost_ret (v := .tuple #[.agg #[.int .i64 0, .int .i64 0, .int .i64 0, .int .i64 0], .bool false]) (by simp [results, Tryd.results21, go_sem, p0', p1', p2', p3']) rfl ⟨rfl, DZ⟩
        · have g3 := strF5 c3
          have hn := bads (fun _ _ h => c3 (bytes_ext h))
          clear c3 bads
          subst hn
          go_wp2_with fail
          have PZ := four_back (w := W1) (r := w.heap.size) (v0 := .int .i64 0) (v1 := .int .i64 0) (v2 := .int .i64 0) (v3 := .int .i64 0) z0 z1 z2 z3
          have DZ : Below w.heap.size w ((((W1.setCell ⟨w.heap.size, 0, none⟩ (.int .i64 0)).setCell ⟨w.heap.size, 1, none⟩ (.int .i64 0)).setCell ⟨w.heap.size, 2, none⟩ (.int .i64 0)).setCell ⟨w.heap.size, 3, none⟩ (.int .i64 0)) := ((((D1.out).setCell (p := ⟨w.heap.size, 0, none⟩) (Nat.le_refl _) _).setCell (p := ⟨w.heap.size, 1, none⟩) (Nat.le_refl _) _).setCell (p := ⟨w.heap.size, 2, none⟩) (Nat.le_refl _) _).setCell (p := ⟨w.heap.size, 3, none⟩) (Nat.le_refl _) _
          generalize ((((W1.setCell ⟨w.heap.size, 0, none⟩ (.int .i64 0)).setCell ⟨w.heap.size, 1, none⟩ (.int .i64 0)).setCell ⟨w.heap.size, 2, none⟩ (.int .i64 0)).setCell ⟨w.heap.size, 3, none⟩ (.int .i64 0)) = Zw at PZ DZ ⊢
          obtain ⟨p0', p1', p2', p3'⟩ := PZ
          exact bodyPost_ret (v := .tuple #[.agg #[.int .i64 0, .int .i64 0, .int .i64 0, .int .i64 0], .bool false]) (by simp [results, Tryd.results21, go_sem, p0', p1', p2', p3']) rfl ⟨rfl, DZ⟩
      · have g2 := strF5 c2
        have hn := bads (fun _ h _ => c2 (bytes_ext h))
        clear c2 bads
        subst hn
        go_wp2_with fail
        have PZ := four_back (w := W1) (r := w.heap.size) (v0 := .int .i64 0) (v1 := .int .i64 0) (v2 := .int .i64 0) (v3 := .int .i64 0) z0 z1 z2 z3
        have DZ : Below w.heap.size w ((((W1.setCell ⟨w.heap.size, 0, none⟩ (.int .i64 0)).setCell ⟨w.heap.size, 1, none⟩ (.int .i64 0)).setCell ⟨w.heap.size, 2, none⟩ (.int .i64 0)).setCell ⟨w.heap.size, 3, none⟩ (.int .i64 0)) := ((((D1.out).setCell (p := ⟨w.heap.size, 0, none⟩) (Nat.le_refl _) _).setCell (p := ⟨w.heap.size, 1, none⟩) (Nat.le_refl _) _).setCell (p := ⟨w.heap.size, 2, none⟩) (Nat.le_refl _) _).setCell (p := ⟨w.heap.size, 3, none⟩) (Nat.le_refl _) _
        generalize ((((W1.setCell ⟨w.heap.size, 0, none⟩ (.int .i64 0)).setCell ⟨w.heap.size, 1, none⟩ (.int .i64 0)).setCell ⟨w.heap.size, 2, none⟩ (.int .i64 0)).setCell ⟨w.heap.size, 3, none⟩ (.int .i64 0)) = Zw at PZ DZ ⊢
        obtain ⟨p0', p1', p2', p3'⟩ := PZ
        exact bodyPost_ret (v := .tuple #[.agg #[.int .i64 0, .int .i64 0, .int .i64 0, .int .i64 0], .bool false]) (by simp [results, Tryd.results21, go_sem, p0', p1', p2', p3']) rfl ⟨rfl, DZ⟩
    · have g1 := strF5 c1
      have hn := bads (fun h _ _ => c1 (bytes_ext h))
      clear c1 bads
      subst hn
      go_wp2_with fail
      have PZ := four_back (w := W1) (r := w.heap.size) (v0 := .int .i64 0) (v1 := .int .i64 0) (v2 := .int .i64 0) (v3 := .int .i64 0) z0 z1 z2 z3
      have DZ : Below w.heap.size w ((((W1.setCell ⟨w.heap.size, 0, none⟩ (.int .i64 0)).setCell ⟨w.heap.size, 1, none⟩ (.int .i64 0)).setCell ⟨w.heap.size, 2, none⟩ (.int .i64 0)).setCell ⟨w.heap.size, 3, none⟩ (.int .i64 0)) := ((((D1.out).setCell (p := ⟨w.heap.size, 0, none⟩) (Nat.le_refl _) _).setCell (p := ⟨w.heap.size, 1, none⟩) (Nat.le_refl _) _).setCell (p := ⟨w.heap.size, 2, none⟩) (Nat.le_refl _) _).setCell (p := ⟨w.heap.size, 3, none⟩) (Nat.le_refl _) _
      generalize ((((W1.setCell ⟨w.heap.size, 0, none⟩ (.int .i64 0)).setCell ⟨w.heap.size, 1, none⟩ (.int .i64 0)).setCell ⟨w.heap.size, 2, none⟩ (.int .i64 0)).setCell ⟨w.heap.size, 3, none⟩ (.int .i64 0)) = Zw at PZ DZ ⊢
      obtain ⟨p0', p1', p2', p3'⟩ := PZ
      exact bodyPost_ret (v := .tuple #[.agg #[.int .i64 0, .int .i64 0, .int .i64 0, .int .i64 0], .bool false]) (by simp [results, Tryd.results21, go_sem, p0', p1', p2', p3']) rfl ⟨rfl, DZ⟩
  · have c5' : ((P.length : Int) != 6) = true := by simp; omega
    have hn : res = none := NO.out fun x0 x1 x2 x3 x4 x5 y0 y1 a b c d k h => by have := HP.out.trans k.pa; rw [this] at c5; exact c5 rfl
    subst hn
    go_wp2_with fail
    have PZ := four_back (w := W1) (r := w.heap.size) (v0 := .int .i64 0) (v1 := .int .i64 0) (v2 := .int .i64 0) (v3 := .int .i64 0) z0 z1 z2 z3
    have DZ : Below w.heap.size w ((((W1.setCell ⟨w.heap.size, 0, none⟩ (.int .i64 0)).setCell ⟨w.heap.size, 1, none⟩ (.int .i64 0)).setCell ⟨w.heap.size, 2, none⟩ (.int .i64 0)).setCell ⟨w.heap.size, 3, none⟩ (.int .i64 0)) := ((((D1.out).setCell (p := ⟨w.heap.size, 0, none⟩) (Nat.le_refl _) _).setCell (p := ⟨w.heap.size, 1, none⟩) (Nat.le_refl _) _).setCell (p := ⟨w.heap.size, 2, none⟩) (Nat.le_refl _) _).setCell (p := ⟨w.heap.size, 3, none⟩) (Nat.le_refl _) _
    generalize ((((W1.setCell ⟨w.heap.size, 0, none⟩ (.int .i64 0)).setCell ⟨w.heap.size, 1, none⟩ (.int .i64 0)).setCell ⟨w.heap.size, 2, none⟩ (.int .i64 0)).setCell ⟨w.heap.size, 3, none⟩ (.int .i64 0)) = Zw at PZ DZ ⊢
    obtain ⟨p0', p1', p2', p3'⟩ := PZ
    exact bodyPost_ret (v := .tuple #[.agg #[.int .i64 0, .int .i64 0, .int .i64 0, .int .i64 0], .bool false]) (by simp [results, Tryd.results21, go_sem, p0', p1', p2', p3']) rfl ⟨rfl, DZ⟩

end Go.Proofs.YticbnahndidplaaDoor
