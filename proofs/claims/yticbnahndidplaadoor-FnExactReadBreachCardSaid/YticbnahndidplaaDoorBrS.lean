/- ReadBreach of the model. -/
import Derived.Test.YticbnahndidplaaDoorBrM
import Derived.Test.YticbnahndidplaaDoorBreC
import Derived.Test.YticbnahndidplaaDoorBreT
import Derived.Test.YticbnahndidplaaDoorNumS
import Derived.Test.YticbnahndidplaaDoorChars
import Derived.Test.YticbnahndidplaaDoorWFnExactReadDecimal
namespace Go.Proofs.YticbnahndidplaaDoor
open Go.RowKit

theorem strT5 {a b : ByteArray} (h : a = b) : (a.toList == b.data.toList) = true := by
  subst h; rw [ByteArray.toList_eq]; simp
theorem strF5 {a b : ByteArray} (h : ¬ a = b) : (a.toList == b.data.toList) = false := by
  rw [ByteArray.toList_eq, beq_eq_false_iff_ne]
  intro e
  exact h (bytes_ext e)
theorem psz5 {s : ByteArray} {P : List ByteArray} (h : P = parts s 32) : ∀ p ∈ P, p.size ≤ s.size := by
  intro p hm
  rw [h] at hm
  obtain ⟨x, hx, rfl⟩ := List.mem_map.1 hm
  have hb := cuts_bd s 32 _ 0 0 (Nat.le_refl _) (by omega) x hx
  unfold ext
  rw [ByteArray.size_extract]
  omega
theorem at_l5 (s : ByteArray) (l : List UInt8) (h : s.data.toList = l) (i : Nat) (hi : i < s.size) : s[i] = l.getD i 0 := by
  subst h
  rw [List.getD_eq_getElem?_getD, List.getElem?_eq_getElem (by simpa using hi)]
  rfl
theorem zb3 {w V : World} (E : Below (w.heap.size + 1) (w.alloc (.cells #[.int .i64 0, .int .i64 0, .int .i64 0] 41)) V) : V.cell? ⟨w.heap.size, 0, none⟩ = some (.int .i64 0) ∧ V.cell? ⟨w.heap.size, 1, none⟩ = some (.int .i64 0) ∧ V.cell? ⟨w.heap.size, 2, none⟩ = some (.int .i64 0) ∧ V.frozen? ⟨w.heap.size, 0, none⟩ = false ∧ V.frozen? ⟨w.heap.size, 1, none⟩ = false ∧ V.frozen? ⟨w.heap.size, 2, none⟩ = false ∧ w.heap.size < V.heap.size :=
  ⟨(E.cell (p := ⟨w.heap.size, 0, none⟩) (Nat.lt_succ_self _)).trans (by first | (simp; done) | go_simp), (E.cell (p := ⟨w.heap.size, 1, none⟩) (Nat.lt_succ_self _)).trans (by first | (simp; done) | go_simp), (E.cell (p := ⟨w.heap.size, 2, none⟩) (Nat.lt_succ_self _)).trans (by first | (simp; done) | go_simp), (E.frozen (p := ⟨w.heap.size, 0, none⟩) (Nat.lt_succ_self _)).trans (by first | (simp; done) | go_simp), (E.frozen (p := ⟨w.heap.size, 1, none⟩) (Nat.lt_succ_self _)).trans (by first | (simp; done) | go_simp), (E.frozen (p := ⟨w.heap.size, 2, none⟩) (Nat.lt_succ_self _)).trans (by first | (simp; done) | go_simp), by have := E.size; (try simp at this); omega⟩
theorem zbD {w V : World} (E : Below (w.heap.size + 1) (w.alloc (.cells #[.int .i64 0, .int .i64 0, .int .i64 0] 41)) V) : Below w.heap.size w V := ((Below.alloc (Below.refl _ _) (Nat.le_refl _) _ : Below w.heap.size w (w.alloc (.cells #[.int .i64 0, .int .i64 0, .int .i64 0] 41)))).trans (E.mono (by omega))

theorem num5 (s : ByteArray) (hs : s.size ≤ 1048576) : ∃ (v : Int) (b : Bool), (∀ W, Calls Tryd.prog 34 #[.string s] W fun e w' => e = .returned (.tuple #[.int .i64 v, .bool b]) ∧ Below W.heap.size W w') ∧ (b = true → DecOf s.data.toList v) ∧ (b = false → ∀ n, ¬ DecOf s.data.toList n) := by
  obtain ⟨r, hr⟩ := dec_res s.data.toList
  refine ⟨r.getD 0, r.isSome, fun W => num_spec s W hs r hr, fun h => ?_, fun h n hn => ?_⟩
  · cases r with
    | none => cases h
    | some n => exact (hr n).1 rfl
  · have := (hr n).2 hn
    subst this
    cases h

set_option maxRecDepth 100000 in
set_option maxHeartbeats 6400000 in
theorem rb_spec (s : ByteArray) (w : World) (hs : s.size ≤ 1048576) (res : Option (Int × Int × Int)) (hres : ∀ a b c, res = some (a, b, c) ↔ tlOk a b c ∧ s.data.toList = brL a b c) :
    Calls Tryd.prog 24 #[.string s] w fun e w' => e = .returned (.tuple #[.agg #[.int .i64 (res.getD (0, 0, 0)).1, .int .i64 (res.getD (0, 0, 0)).2.1, .int .i64 (res.getD (0, 0, 0)).2.2], .bool res.isSome]) ∧ Below w.heap.size w w' := by
  have NO := Lib.hid (show (∀ p0 p1 p2 p3 p4 u a b c, BrK s p0 p1 p2 p3 p4 u a b c → tlOk a b c → False) → res = none from fun h => by
    cases hr : res with
    | none => rfl
    | some n =>
      obtain ⟨a, b, c⟩ := n
      obtain ⟨h1, h2⟩ := (hres a b c).1 hr
      exact absurd (h _ _ _ _ _ _ _ _ _ (brk_ok h1 h2) h1) id)
  have YES := Lib.hid (show ∀ p0 p1 p2 p3 p4 u a b c, BrK s p0 p1 p2 p3 p4 u a b c → tlOk a b c → res = some (a, b, c) from fun p0 p1 p2 p3 p4 u a b c k h => (hres a b c).2 ⟨h, brk_val k⟩)
  clear hres
  go_enter Tryd.func24, Tryd.ntmps24
  go_wp2_with fail
  refine (l01Split_t s 32 _ hs (by omega)).mono ?_
  rintro q1 W1 ⟨A, c, rfl, b1, hw⟩
  have E1 : Below (w.heap.size + 1) (w.alloc (.cells #[.int .i64 0, .int .i64 0, .int .i64 0] 41)) W1 := b1.mono (by first | omega | (simp; done) | (simp; omega))
  clear b1
  obtain ⟨z0, z1, z2, f0, f1, f2, zs⟩ := zb3 E1
  have D1 := Lib.hid (zbD E1)
  obtain ⟨P, hP⟩ : ∃ P, P = parts s 32 := ⟨_, rfl⟩
  have HP := Lib.hid hP
  rw [← hP] at hw ⊢
  have HRd := Lib.hid hw.rd
  have hne : 0 < P.length := by
    rw [hP, parts_split, List.length_map]
    exact List.length_pos_iff.2 (splitL_ne _ _)
  clear hw hP
  obtain ⟨p0, rest, hpr⟩ : ∃ p0 rest, P = p0 :: rest := by
    match P, hne with
    | a :: r, _ => exact ⟨a, r, rfl⟩
  obtain ⟨bb, oo, rfl, hbb, hc⟩ := HRd.out.2 (by omega)
  have t0 : W1.cell? ⟨bb, oo, none⟩ = some (.string p0) := by have := hc 0 hne; rw [hpr] at this; simpa using this
  by_cases c5 : P.length = 5
  · obtain ⟨q0, p1, p2, p3, p4, rfl⟩ : ∃ q0 p1 p2 p3 p4, P = [q0, p1, p2, p3, p4] := by
      match P, c5 with
      | [a, b, c, d, e], _ => exact ⟨a, b, c, d, e, rfl⟩
    obtain rfl : q0 = p0 := by injection hpr
    have t1 : W1.cell? ⟨bb, oo + 1, none⟩ = some (.string p1) := hc 1 (by simp)
    have t2 : W1.cell? ⟨bb, oo + 2, none⟩ = some (.string p2) := hc 2 (by simp)
    have t3 : W1.cell? ⟨bb, oo + 3, none⟩ = some (.string p3) := hc 3 (by simp)
    have t4 : W1.cell? ⟨bb, oo + 4, none⟩ = some (.string p4) := hc 4 (by simp)
    clear hc hpr
    have P0 := Lib.hid (show ∀ x0 x1 x2 x3 x4 u a b c, BrK s x0 x1 x2 x3 x4 u a b c → q0 = x0 ∧ p1 = x1 ∧ p2 = x2 ∧ p3 = x3 ∧ p4 = x4 from fun x0 x1 x2 x3 x4 u a b c k => by
      have e := HP.out.trans k.pa
      simpa using e)
    by_cases hz : q0.size = 0
    · have hn : res = none := NO.out fun x0 x1 x2 x3 x4 u a b c k h => by
        have := k.p0
        rw [← (P0.out _ _ _ _ _ _ _ _ _ k).1] at this
        have h2 := congrArg List.length this
        have h3 : q0.data.toList.length = q0.size := rfl
        simp at h2
        omega
      subst hn
      go_wp2_with (first | (go_at_call 33; first | (refine (dg_t _ _ (by omega)).mono ?_; rintro e w' ⟨rfl, rfl⟩) | (refine (dg_f _ _ (by omega)).mono ?_; rintro e w' ⟨rfl, rfl⟩)))
      have PZ := three_back (w := W1) (r := w.heap.size) (v0 := .int .i64 0) (v1 := .int .i64 0) (v2 := .int .i64 0) z0 z1 z2
      have DZ : Below w.heap.size w (((W1.setCell ⟨w.heap.size, 0, none⟩ (.int .i64 0)).setCell ⟨w.heap.size, 1, none⟩ (.int .i64 0)).setCell ⟨w.heap.size, 2, none⟩ (.int .i64 0)) := (((D1.out).setCell (p := ⟨w.heap.size, 0, none⟩) (Nat.le_refl _) _).setCell (p := ⟨w.heap.size, 1, none⟩) (Nat.le_refl _) _).setCell (p := ⟨w.heap.size, 2, none⟩) (Nat.le_refl _) _
      generalize (((W1.setCell ⟨w.heap.size, 0, none⟩ (.int .i64 0)).setCell ⟨w.heap.size, 1, none⟩ (.int .i64 0)).setCell ⟨w.heap.size, 2, none⟩ (.int .i64 0)) = Zw at PZ DZ ⊢
      obtain ⟨p0', p1', p2'⟩ := PZ
      exact bodyPost_ret (v := .tuple #[.agg #[.int .i64 0, .int .i64 0, .int .i64 0], .bool false]) (by simp [results, Tryd.results24, go_sem, p0', p1', p2']) rfl ⟨rfl, DZ⟩
    · obtain ⟨n0, hn0⟩ : ∃ n0 : Nat, n0 + 1 = q0.size := ⟨q0.size - 1, by omega⟩
      have i0 : wrap64 ((q0.size : Int) - 1) = (n0 : Int) := by
        have := psz5 HP.out q0 (by simp); rw [IntWalk.wrap64_in _ (by omega)]; omega
      have i1 : decide ((n0 : Int) < 0) = false := decide_eq_false (by omega)
      have i2 : n0 < q0.size := by omega
      have i3 : (n0 : Int) < (q0.size : Int) := by omega
      have i4 : (n0 : Int) ≤ (q0.size : Int) := by omega
      obtain ⟨u, d, hud⟩ : ∃ u d, q0.data.toList = u ++ [d] := ⟨q0.data.toList.dropLast, q0.data.toList.getLast (by intro e; have h3 : q0.data.toList.length = n0 + 1 := hn0.symm; rw [e] at h3; simp at h3), (List.dropLast_concat_getLast _).symm⟩
      have hul : u.length = n0 := by
        have h3 : q0.data.toList.length = n0 + 1 := hn0.symm
        rw [hud, List.length_append] at h3
        simpa using h3
      have hd : q0[n0] = d := by rw [at_l5 q0 _ hud n0 i2]; simp [← hul]
      have HUD := Lib.hid hud
      have bads : (d = 109 → p1.data.toList = [115, 105, 108, 108] → p3.data.toList = [119, 97, 116, 101, 114] → False) → res = none := fun h => NO.out fun x0 x1 x2 x3 x4 u' a b c k _ => by
        obtain ⟨rfl, rfl, rfl, rfl, rfl⟩ := P0.out _ _ _ _ _ _ _ _ _ k
        refine h ?_ k.p1 k.p3
        have e := hud.symm.trans k.p0
        have e2 := congrArg List.getLast? e
        simpa using e2
      clear hz
      by_cases c1 : d = 109
      · subst c1
        by_cases c2 : p1 = ⟨#[115, 105, 108, 108]⟩
        · have g1 := strT5 c2
          by_cases c3 : p3 = ⟨#[119, 97, 116, 101, 114]⟩
          · have g3 := strT5 c3
            obtain ⟨A0, hA0⟩ : ∃ A, A = q0.extract 0 n0 := ⟨_, rfl⟩
            have hA0l : A0.data.toList = u := by
              rw [hA0, ByteArray.data_extract, Array.toList_extract, List.extract_eq_take_drop, hud, ← hul]; simp
            have hs0 : A0.size ≤ 1048576 := by
              have h3 : A0.data.toList.length = A0.size := rfl
              have := psz5 HP.out q0 (by simp)
              rw [hA0l] at h3; omega
            have hs2 : p2.size ≤ 1048576 := by have := psz5 HP.out p2 (by simp); omega
            have hs4 : p4.size ≤ 1048576 := by have := psz5 HP.out p4 (by simp); omega
            obtain ⟨va, ba, na, na1, na2⟩ := num5 A0 hs0
            obtain ⟨vb, bb', nb, nb1, nb2⟩ := num5 p2 hs2
            obtain ⟨vc, bc, nc, nc1, nc2⟩ := num5 p4 hs4
            rw [hA0l] at na1 na2
            have NA := Lib.hid na
            have NB := Lib.hid nb
            have NC := Lib.hid nc
            have HA0 := Lib.hid hA0.symm
            have GOOD := Lib.hid (show ba = true → bb' = true → bc = true → BrK s q0 p1 p2 p3 p4 u va vb vc from fun h1 h2 h3 => ⟨HP.out.symm, HUD.out, by rw [c2], by rw [c3], na1 h1, nb1 h2, nc1 h3⟩)
            have BADN := Lib.hid (show (ba = true → bb' = true → bc = true → tlOk va vb vc → False) → res = none from fun h => NO.out fun x0 x1 x2 x3 x4 u' a b c k ht => by
              obtain ⟨rfl, rfl, rfl, rfl, rfl⟩ := P0.out _ _ _ _ _ _ _ _ _ k
              have eu : u = u' := by have e := HUD.out.symm.trans k.p0; simpa using e
              subst eu
              cases hba : ba with
              | false => exact na2 hba a k.na
              | true =>
                cases hbb' : bb' with
                | false => exact nb2 hbb' b k.nb
                | true =>
                  cases hbc : bc with
                  | false => exact nc2 hbc c k.nc
                  | true =>
                    obtain rfl := (na1 hba).inj k.na
                    obtain rfl := (nb1 hbb').inj k.nb
                    obtain rfl := (nc1 hbc).inj k.nc
                    exact h hba hbb' hbc ht)
            clear na nb nc na1 na2 nb1 nb2 nc1 nc2 hA0l hA0 c2 c3 hud hul bads
            go_wp2_with fail
            rw [HA0.out]
            refine (NA.out _).mono ?_
            rintro e2 W2 ⟨rfl, b2⟩
            have E2 := E1.trans (b2.mono (by omega))
            have t22 := (b2.cell (p := ⟨bb, oo + 2, none⟩) hbb).trans t2
            have t24 := (b2.cell (p := ⟨bb, oo + 4, none⟩) hbb).trans t4
            have hb2 : bb < W2.heap.size := Nat.lt_of_lt_of_le hbb b2.size
            obtain ⟨_, _, _, _, _, _, zs2⟩ := zb3 E2
            clear b2 t0 t1 t2 t3 t4
            go_wp2_with fail
            refine (NB.out _).mono ?_
            rintro e3 W3 ⟨rfl, b3⟩
            have E3 := E2.trans (b3.mono (by omega))
            have t34 := (b3.cell (p := ⟨bb, oo + 4, none⟩) hb2).trans t24
            obtain ⟨_, _, _, _, _, _, zs3⟩ := zb3 E3
            clear b3 t22 t24
            go_wp2_with fail
            refine (NC.out _).mono ?_
            rintro e4 W4 ⟨rfl, b4⟩
            have E4 := E3.trans (b4.mono (by omega))
            obtain ⟨_, _, _, _, _, _, zs4⟩ := zb3 E4
            have A4 : Below W4.heap.size W4 (W4.alloc (.cells #[.int .i64 va, .int .i64 vb, .int .i64 vc] 41)) := Below.alloc (Below.refl _ _) (Nat.le_refl _) _
            have E5 : Below (w.heap.size + 1) (w.alloc (.cells #[.int .i64 0, .int .i64 0, .int .i64 0] 41)) (W4.alloc (.cells #[.int .i64 va, .int .i64 vb, .int .i64 vc] 41)) := E4.trans (A4.mono (by omega))
            have sA := A4.size
            obtain ⟨zz0, zz1, zz2, ff0, ff1, ff2, zs5⟩ := zb3 E5
            have D5 := Lib.hid (zbD E5)
            clear b4 t34 z0 z1 z2 f0 f1 f2
            by_cases hall : ba = true ∧ bb' = true ∧ bc = true
            · obtain ⟨rfl, rfl, rfl⟩ := hall
              have K5 := Lib.hid (GOOD.out rfl rfl rfl)
              obtain ⟨z0, z1, z2, f0, f1, f2, _⟩ := zb3 E5
              by_cases ht : tlOk va vb vc
              · have hn : res = some (va, vb, vc) := YES.out _ _ _ _ _ _ _ _ _ K5.out ht
                subst hn
                have HT := Lib.hid (show true = decide (tlOk va vb vc) from (decide_eq_true ht).symm)
                clear ht
                go_wp2_with fail
                refine (tlS_any va vb vc _ true HT.out).mono ?_
                rintro e5 W5 ⟨rfl, b5⟩
                have E6 := E5.trans (b5.mono (by omega))
                have y0 := (b5.cell (p := ⟨W4.heap.size, 0, none⟩) (by first | omega | (simp; done) | (simp; omega))).trans (show (W4.alloc (.cells #[.int .i64 va, .int .i64 vb, .int .i64 vc] 41)).cell? ⟨W4.heap.size, 0, none⟩ = some (.int .i64 va) by simp)
                have y1 := (b5.cell (p := ⟨W4.heap.size, 1, none⟩) (by first | omega | (simp; done) | (simp; omega))).trans (show (W4.alloc (.cells #[.int .i64 va, .int .i64 vb, .int .i64 vc] 41)).cell? ⟨W4.heap.size, 1, none⟩ = some (.int .i64 vb) by simp)
                have y2 := (b5.cell (p := ⟨W4.heap.size, 2, none⟩) (by first | omega | (simp; done) | (simp; omega))).trans (show (W4.alloc (.cells #[.int .i64 va, .int .i64 vb, .int .i64 vc] 41)).cell? ⟨W4.heap.size, 2, none⟩ = some (.int .i64 vc) by simp)
                clear z0 z1 z2 f0 f1 f2 zz0 zz1 zz2 ff0 ff1 ff2
                obtain ⟨z0, z1, z2, f0, f1, f2, zs6⟩ := zb3 E6
                have D6 := Lib.hid (zbD E6)
                clear b5
                go_wp2
                have PZ := three_back (w := W5) (r := w.heap.size) (v0 := .int .i64 va) (v1 := .int .i64 vb) (v2 := .int .i64 vc) z0 z1 z2
                have DZ : Below w.heap.size w (((W5.setCell ⟨w.heap.size, 0, none⟩ (.int .i64 va)).setCell ⟨w.heap.size, 1, none⟩ (.int .i64 vb)).setCell ⟨w.heap.size, 2, none⟩ (.int .i64 vc)) := (((D6.out).setCell (p := ⟨w.heap.size, 0, none⟩) (Nat.le_refl _) _).setCell (p := ⟨w.heap.size, 1, none⟩) (Nat.le_refl _) _).setCell (p := ⟨w.heap.size, 2, none⟩) (Nat.le_refl _) _
                generalize (((W5.setCell ⟨w.heap.size, 0, none⟩ (.int .i64 va)).setCell ⟨w.heap.size, 1, none⟩ (.int .i64 vb)).setCell ⟨w.heap.size, 2, none⟩ (.int .i64 vc)) = Zw at PZ DZ ⊢
                obtain ⟨p0', p1', p2'⟩ := PZ
                exact bodyPost_ret (v := .tuple #[.agg #[.int .i64 va, .int .i64 vb, .int .i64 vc], .bool true]) (by simp [results, Tryd.results24, go_sem, p0', p1', p2']) rfl ⟨rfl, DZ⟩
              · have hn : res = none := BADN.out fun _ _ _ h => ht h
                subst hn
                have HT := Lib.hid (show false = decide (tlOk va vb vc) from (decide_eq_false ht).symm)
                clear ht
                go_wp2_with fail
                refine (tlS_any va vb vc _ false HT.out).mono ?_
                rintro e5 W5 ⟨rfl, b5⟩
                have E6 := E5.trans (b5.mono (by omega))
                have y0 := (b5.cell (p := ⟨W4.heap.size, 0, none⟩) (by first | omega | (simp; done) | (simp; omega))).trans (show (W4.alloc (.cells #[.int .i64 va, .int .i64 vb, .int .i64 vc] 41)).cell? ⟨W4.heap.size, 0, none⟩ = some (.int .i64 va) by simp)
                have y1 := (b5.cell (p := ⟨W4.heap.size, 1, none⟩) (by first | omega | (simp; done) | (simp; omega))).trans (show (W4.alloc (.cells #[.int .i64 va, .int .i64 vb, .int .i64 vc] 41)).cell? ⟨W4.heap.size, 1, none⟩ = some (.int .i64 vb) by simp)
                have y2 := (b5.cell (p := ⟨W4.heap.size, 2, none⟩) (by first | omega | (simp; done) | (simp; omega))).trans (show (W4.alloc (.cells #[.int .i64 va, .int .i64 vb, .int .i64 vc] 41)).cell? ⟨W4.heap.size, 2, none⟩ = some (.int .i64 vc) by simp)
                clear z0 z1 z2 f0 f1 f2 zz0 zz1 zz2 ff0 ff1 ff2
                obtain ⟨z0, z1, z2, f0, f1, f2, zs6⟩ := zb3 E6
                have D6 := Lib.hid (zbD E6)
                clear b5
                go_wp2
                have PZ := three_back (w := W5) (r := w.heap.size) (v0 := .int .i64 0) (v1 := .int .i64 0) (v2 := .int .i64 0) z0 z1 z2
                have DZ : Below w.heap.size w (((W5.setCell ⟨w.heap.size, 0, none⟩ (.int .i64 0)).setCell ⟨w.heap.size, 1, none⟩ (.int .i64 0)).setCell ⟨w.heap.size, 2, none⟩ (.int .i64 0)) := (((D6.out).setCell (p := ⟨w.heap.size, 0, none⟩) (Nat.le_refl _) _).setCell (p := ⟨w.heap.size, 1, none⟩) (Nat.le_refl _) _).setCell (p := ⟨w.heap.size, 2, none⟩) (Nat.le_refl _) _
                generalize (((W5.setCell ⟨w.heap.size, 0, none⟩ (.int .i64 0)).setCell ⟨w.heap.size, 1, none⟩ (.int .i64 0)).setCell ⟨w.heap.size, 2, none⟩ (.int .i64 0)) = Zw at PZ DZ ⊢
                obtain ⟨p0', p1', p2'⟩ := PZ
                exact bodyPost_ret (v := .tuple #[.agg #[.int .i64 0, .int .i64 0, .int .i64 0], .bool false]) (by simp [results, Tryd.results24, go_sem, p0', p1', p2']) rfl ⟨rfl, DZ⟩
            · have hn : res = none := BADN.out fun h1 h2 h3 _ => hall ⟨h1, h2, h3⟩
              subst hn
              have D4 := Lib.hid (zbD E4)
              obtain ⟨z0, z1, z2, f0, f1, f2, _⟩ := zb3 E4
              clear zz0 zz1 zz2 ff0 ff1 ff2 E5 A4 sA zs5
              have hor : (!ba || !bb' || !bc) = true := by cases ba <;> cases bb' <;> cases bc <;> simp_all
              cases ba
              · go_wp2
                have PZ := three_back (w := W4) (r := w.heap.size) (v0 := .int .i64 0) (v1 := .int .i64 0) (v2 := .int .i64 0) z0 z1 z2
                have DZ : Below w.heap.size w (((W4.setCell ⟨w.heap.size, 0, none⟩ (.int .i64 0)).setCell ⟨w.heap.size, 1, none⟩ (.int .i64 0)).setCell ⟨w.heap.size, 2, none⟩ (.int .i64 0)) := (((D4.out).setCell (p := ⟨w.heap.size, 0, none⟩) (Nat.le_refl _) _).setCell (p := ⟨w.heap.size, 1, none⟩) (Nat.le_refl _) _).setCell (p := ⟨w.heap.size, 2, none⟩) (Nat.le_refl _) _
                have SZ : w.heap.size < ((((W4.setCell ⟨w.heap.size, 0, none⟩ (.int .i64 0)).setCell ⟨w.heap.size, 1, none⟩ (.int .i64 0)).setCell ⟨w.heap.size, 2, none⟩ (.int .i64 0))).heap.size := by simpa [World.setCell] using zs4
                generalize (((W4.setCell ⟨w.heap.size, 0, none⟩ (.int .i64 0)).setCell ⟨w.heap.size, 1, none⟩ (.int .i64 0)).setCell ⟨w.heap.size, 2, none⟩ (.int .i64 0)) = Zw at PZ DZ SZ ⊢
                obtain ⟨p0', p1', p2'⟩ := PZ
                have AZ : Below Zw.heap.size Zw (Zw.alloc (.cells #[.int .i64 va, .int .i64 vb, .int .i64 vc] 41)) := Below.alloc (Below.refl _ _) (Nat.le_refl _) _
                have r0' := (AZ.cell (p := ⟨w.heap.size, 0, none⟩) SZ).trans p0'
                have r1' := (AZ.cell (p := ⟨w.heap.size, 1, none⟩) SZ).trans p1'
                have r2' := (AZ.cell (p := ⟨w.heap.size, 2, none⟩) SZ).trans p2'
                have DZ2 := DZ.trans (AZ.mono (Nat.le_of_lt SZ))
                generalize Zw.alloc (.cells #[.int .i64 va, .int .i64 vb, .int .i64 vc] 41) = Zw2 at r0' r1' r2' DZ2 ⊢
                exact bodyPost_ret (v := .tuple #[.agg #[.int .i64 0, .int .i64 0, .int .i64 0], .bool false]) (by simp [results, Tryd.results24, go_sem, r0', r1', r2']) rfl ⟨rfl, DZ2⟩
              · cases bb'
                · go_wp2
                  have PZ := three_back (w := W4) (r := w.heap.size) (v0 := .int .i64 0) (v1 := .int .i64 0) (v2 := .int .i64 0) z0 z1 z2
                  have DZ : Below w.heap.size w (((W4.setCell ⟨w.heap.size, 0, none⟩ (.int .i64 0)).setCell ⟨w.heap.size, 1, none⟩ (.int .i64 0)).setCell ⟨w.heap.size, 2, none⟩ (.int .i64 0)) := (((D4.out).setCell (p := ⟨w.heap.size, 0, none⟩) (Nat.le_refl _) _).setCell (p := ⟨w.heap.size, 1, none⟩) (Nat.le_refl _) _).setCell (p := ⟨w.heap.size, 2, none⟩) (Nat.le_refl _) _
                  have SZ : w.heap.size < ((((W4.setCell ⟨w.heap.size, 0, none⟩ (.int .i64 0)).setCell ⟨w.heap.size, 1, none⟩ (.int .i64 0)).setCell ⟨w.heap.size, 2, none⟩ (.int .i64 0))).heap.size := by simpa [World.setCell] using zs4
                  generalize (((W4.setCell ⟨w.heap.size, 0, none⟩ (.int .i64 0)).setCell ⟨w.heap.size, 1, none⟩ (.int .i64 0)).setCell ⟨w.heap.size, 2, none⟩ (.int .i64 0)) = Zw at PZ DZ SZ ⊢
                  obtain ⟨p0', p1', p2'⟩ := PZ
                  have AZ : Below Zw.heap.size Zw (Zw.alloc (.cells #[.int .i64 va, .int .i64 vb, .int .i64 vc] 41)) := Below.alloc (Below.refl _ _) (Nat.le_refl _) _
                  have r0' := (AZ.cell (p := ⟨w.heap.size, 0, none⟩) SZ).trans p0'
                  have r1' := (AZ.cell (p := ⟨w.heap.size, 1, none⟩) SZ).trans p1'
                  have r2' := (AZ.cell (p := ⟨w.heap.size, 2, none⟩) SZ).trans p2'
                  have DZ2 := DZ.trans (AZ.mono (Nat.le_of_lt SZ))
                  generalize Zw.alloc (.cells #[.int .i64 va, .int .i64 vb, .int .i64 vc] 41) = Zw2 at r0' r1' r2' DZ2 ⊢
                  exact bodyPost_ret (v := .tuple #[.agg #[.int .i64 0, .int .i64 0, .int .i64 0], .bool false]) (by simp [results, Tryd.results24, go_sem, r0', r1', r2']) rfl ⟨rfl, DZ2⟩
                · cases bc
                  · go_wp2
                    have PZ := three_back (w := W4) (r := w.heap.size) (v0 := .int .i64 0) (v1 := .int .i64 0) (v2 := .int .i64 0) z0 z1 z2
                    have DZ : Below w.heap.size w (((W4.setCell ⟨w.heap.size, 0, none⟩ (.int .i64 0)).setCell ⟨w.heap.size, 1, none⟩ (.int .i64 0)).setCell ⟨w.heap.size, 2, none⟩ (.int .i64 0)) := (((D4.out).setCell (p := ⟨w.heap.size, 0, none⟩) (Nat.le_refl _) _).setCell (p := ⟨w.heap.size, 1, none⟩) (Nat.le_refl _) _).setCell (p := ⟨w.heap.size, 2, none⟩) (Nat.le_refl _) _
                    have SZ : w.heap.size < ((((W4.setCell ⟨w.heap.size, 0, none⟩ (.int .i64 0)).setCell ⟨w.heap.size, 1, none⟩ (.int .i64 0)).setCell ⟨w.heap.size, 2, none⟩ (.int .i64 0))).heap.size := by simpa [World.setCell] using zs4
                    generalize (((W4.setCell ⟨w.heap.size, 0, none⟩ (.int .i64 0)).setCell ⟨w.heap.size, 1, none⟩ (.int .i64 0)).setCell ⟨w.heap.size, 2, none⟩ (.int .i64 0)) = Zw at PZ DZ SZ ⊢
                    obtain ⟨p0', p1', p2'⟩ := PZ
                    have AZ : Below Zw.heap.size Zw (Zw.alloc (.cells #[.int .i64 va, .int .i64 vb, .int .i64 vc] 41)) := Below.alloc (Below.refl _ _) (Nat.le_refl _) _
                    have r0' := (AZ.cell (p := ⟨w.heap.size, 0, none⟩) SZ).trans p0'
                    have r1' := (AZ.cell (p := ⟨w.heap.size, 1, none⟩) SZ).trans p1'
                    have r2' := (AZ.cell (p := ⟨w.heap.size, 2, none⟩) SZ).trans p2'
                    have DZ2 := DZ.trans (AZ.mono (Nat.le_of_lt SZ))
                    generalize Zw.alloc (.cells #[.int .i64 va, .int .i64 vb, .int .i64 vc] 41) = Zw2 at r0' r1' r2' DZ2 ⊢
                    exact bodyPost_ret (v := .tuple #[.agg #[.int .i64 0, .int .i64 0, .int .i64 0], .bool false]) (by simp [results, Tryd.results24, go_sem, r0', r1', r2']) rfl ⟨rfl, DZ2⟩
                  · exact absurd ⟨rfl, rfl, rfl⟩ hall
          · have g3 := strF5 c3
            have hn := bads (fun _ _ h => c3 (bytes_ext h))
            clear c3
            subst hn
            go_wp2_with (first | (go_at_call 33; first | (refine (dg_t _ _ (by omega)).mono ?_; rintro e w' ⟨rfl, rfl⟩) | (refine (dg_f _ _ (by omega)).mono ?_; rintro e w' ⟨rfl, rfl⟩)))
            have PZ := three_back (w := W1) (r := w.heap.size) (v0 := .int .i64 0) (v1 := .int .i64 0) (v2 := .int .i64 0) z0 z1 z2
            have DZ : Below w.heap.size w (((W1.setCell ⟨w.heap.size, 0, none⟩ (.int .i64 0)).setCell ⟨w.heap.size, 1, none⟩ (.int .i64 0)).setCell ⟨w.heap.size, 2, none⟩ (.int .i64 0)) := (((D1.out).setCell (p := ⟨w.heap.size, 0, none⟩) (Nat.le_refl _) _).setCell (p := ⟨w.heap.size, 1, none⟩) (Nat.le_refl _) _).setCell (p := ⟨w.heap.size, 2, none⟩) (Nat.le_refl _) _
            generalize (((W1.setCell ⟨w.heap.size, 0, none⟩ (.int .i64 0)).setCell ⟨w.heap.size, 1, none⟩ (.int .i64 0)).setCell ⟨w.heap.size, 2, none⟩ (.int .i64 0)) = Zw at PZ DZ ⊢
            obtain ⟨p0', p1', p2'⟩ := PZ
            exact bodyPost_ret (v := .tuple #[.agg #[.int .i64 0, .int .i64 0, .int .i64 0], .bool false]) (by simp [results, Tryd.results24, go_sem, p0', p1', p2']) rfl ⟨rfl, DZ⟩
        · have g1 := strF5 c2
          have hn := bads (fun _ h _ => c2 (bytes_ext h))
          clear c2
          subst hn
          go_wp2_with (first | (go_at_call 33; first | (refine (dg_t _ _ (by omega)).mono ?_; rintro e w' ⟨rfl, rfl⟩) | (refine (dg_f _ _ (by omega)).mono ?_; rintro e w' ⟨rfl, rfl⟩)))
          have PZ := three_back (w := W1) (r := w.heap.size) (v0 := .int .i64 0) (v1 := .int .i64 0) (v2 := .int .i64 0) z0 z1 z2
          have DZ : Below w.heap.size w (((W1.setCell ⟨w.heap.size, 0, none⟩ (.int .i64 0)).setCell ⟨w.heap.size, 1, none⟩ (.int .i64 0)).setCell ⟨w.heap.size, 2, none⟩ (.int .i64 0)) := (((D1.out).setCell (p := ⟨w.heap.size, 0, none⟩) (Nat.le_refl _) _).setCell (p := ⟨w.heap.size, 1, none⟩) (Nat.le_refl _) _).setCell (p := ⟨w.heap.size, 2, none⟩) (Nat.le_refl _) _
          generalize (((W1.setCell ⟨w.heap.size, 0, none⟩ (.int .i64 0)).setCell ⟨w.heap.size, 1, none⟩ (.int .i64 0)).setCell ⟨w.heap.size, 2, none⟩ (.int .i64 0)) = Zw at PZ DZ ⊢
          obtain ⟨p0', p1', p2'⟩ := PZ
          exact bodyPost_ret (v := .tuple #[.agg #[.int .i64 0, .int .i64 0, .int .i64 0], .bool false]) (by simp [results, Tryd.results24, go_sem, p0', p1', p2']) rfl ⟨rfl, DZ⟩
      · have x1 : ((d.toNat : Int) != 109) = true := by simp only [bne_iff_ne, ne_eq]; intro e; exact c1 (UInt8.toNat_inj.1 (by have : (109 : UInt8).toNat = 109 := rfl; omega))
        have hn := bads (fun h _ _ => c1 h)
        clear c1
        subst hn
        go_wp2_with (first | (go_at_call 33; first | (refine (dg_t _ _ (by omega)).mono ?_; rintro e w' ⟨rfl, rfl⟩) | (refine (dg_f _ _ (by omega)).mono ?_; rintro e w' ⟨rfl, rfl⟩)))
        have PZ := three_back (w := W1) (r := w.heap.size) (v0 := .int .i64 0) (v1 := .int .i64 0) (v2 := .int .i64 0) z0 z1 z2
        have DZ : Below w.heap.size w (((W1.setCell ⟨w.heap.size, 0, none⟩ (.int .i64 0)).setCell ⟨w.heap.size, 1, none⟩ (.int .i64 0)).setCell ⟨w.heap.size, 2, none⟩ (.int .i64 0)) := (((D1.out).setCell (p := ⟨w.heap.size, 0, none⟩) (Nat.le_refl _) _).setCell (p := ⟨w.heap.size, 1, none⟩) (Nat.le_refl _) _).setCell (p := ⟨w.heap.size, 2, none⟩) (Nat.le_refl _) _
        generalize (((W1.setCell ⟨w.heap.size, 0, none⟩ (.int .i64 0)).setCell ⟨w.heap.size, 1, none⟩ (.int .i64 0)).setCell ⟨w.heap.size, 2, none⟩ (.int .i64 0)) = Zw at PZ DZ ⊢
        obtain ⟨p0', p1', p2'⟩ := PZ
        exact bodyPost_ret (v := .tuple #[.agg #[.int .i64 0, .int .i64 0, .int .i64 0], .bool false]) (by simp [results, Tryd.results24, go_sem, p0', p1', p2']) rfl ⟨rfl, DZ⟩
  · have c5' : ((P.length : Int) != 5) = true := by simp; omega
    have hn : res = none := NO.out fun q0 q1 q2 q3 q4 u a b c k h => by have := HP.out.trans k.pa; rw [this] at c5; exact c5 rfl
    clear hpr hc
    subst hn
    go_wp2_with (first | (go_at_call 33; first | (refine (dg_t _ _ (by omega)).mono ?_; rintro e w' ⟨rfl, rfl⟩) | (refine (dg_f _ _ (by omega)).mono ?_; rintro e w' ⟨rfl, rfl⟩)))
    have PZ := three_back (w := W1) (r := w.heap.size) (v0 := .int .i64 0) (v1 := .int .i64 0) (v2 := .int .i64 0) z0 z1 z2
    have DZ : Below w.heap.size w (((W1.setCell ⟨w.heap.size, 0, none⟩ (.int .i64 0)).setCell ⟨w.heap.size, 1, none⟩ (.int .i64 0)).setCell ⟨w.heap.size, 2, none⟩ (.int .i64 0)) := (((D1.out).setCell (p := ⟨w.heap.size, 0, none⟩) (Nat.le_refl _) _).setCell (p := ⟨w.heap.size, 1, none⟩) (Nat.le_refl _) _).setCell (p := ⟨w.heap.size, 2, none⟩) (Nat.le_refl _) _
    generalize (((W1.setCell ⟨w.heap.size, 0, none⟩ (.int .i64 0)).setCell ⟨w.heap.size, 1, none⟩ (.int .i64 0)).setCell ⟨w.heap.size, 2, none⟩ (.int .i64 0)) = Zw at PZ DZ ⊢
    obtain ⟨p0', p1', p2'⟩ := PZ
    exact bodyPost_ret (v := .tuple #[.agg #[.int .i64 0, .int .i64 0, .int .i64 0], .bool false]) (by simp [results, Tryd.results24, go_sem, p0', p1', p2']) rfl ⟨rfl, DZ⟩

end Go.Proofs.YticbnahndidplaaDoor
