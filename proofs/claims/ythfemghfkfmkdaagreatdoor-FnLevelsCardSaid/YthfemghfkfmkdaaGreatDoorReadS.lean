/- ReadLevel of the model. -/
import Derived.Test.YthfemghfkfmkdaaGreatDoorReadL
import Derived.Test.YthfemghfkfmkdaaGreatDoorWFnExactReadDecimal
import Derived.Deep.RegionHeld3
namespace Go.Proofs.YthfemghfkfmkdaaGreatDoor
open Go.RowKit

theorem psz {s p0 p1 : ByteArray} (h : [p0, p1] = parts (s.extract 1 (s.size - 1)) 46) : p0.size ≤ s.size := by
  have hm : p0 ∈ parts (s.extract 1 (s.size - 1)) 46 := by rw [← h]; simp
  obtain ⟨x, hx, rfl⟩ := List.mem_map.1 hm
  have hb := cuts_bd (s.extract 1 (s.size - 1)) 46 _ 0 0 (Nat.le_refl _) (by omega) x hx
  have hz : (s.extract 1 (s.size - 1)).size ≤ s.size := by rw [ByteArray.size_extract]; omega
  unfold ext
  rw [ByteArray.size_extract]
  omega
set_option maxHeartbeats 400000 in
theorem lv_t (x : Int) (w : World) (h : -2000 ≤ x ∧ x ≤ 2000) : Calls Tryz.prog 51 #[.int .i64 x] w fun e w' => e = .returned (.bool true) ∧ w = w' := by
  go_enter Tryz.func51, Tryz.ntmps51
  go_wp2_with (first | (go_at_call 37; first | (refine (in_t _ _ _ _ (by omega)).mono ?_; rintro e w' ⟨rfl, rfl⟩) | (refine (in_f _ _ _ _ (by omega)).mono ?_; rintro e w' ⟨rfl, rfl⟩)))
  go_ret
  exact ⟨rfl, rfl⟩

set_option maxHeartbeats 400000 in
theorem lv_f (x : Int) (w : World) (h : ¬ (-2000 ≤ x ∧ x ≤ 2000)) : Calls Tryz.prog 51 #[.int .i64 x] w fun e w' => e = .returned (.bool false) ∧ w = w' := by
  have h' : x < -2000 ∨ 2000 < x := by omega
  clear h
  go_enter Tryz.func51, Tryz.ntmps51
  go_wp2_with (first | (go_at_call 37; first | (refine (in_t _ _ _ _ (by omega)).mono ?_; rintro e w' ⟨rfl, rfl⟩) | (refine (in_f _ _ _ _ (by omega)).mono ?_; rintro e w' ⟨rfl, rfl⟩)))
  go_ret
  exact ⟨rfl, rfl⟩

set_option maxRecDepth 100000 in
set_option maxHeartbeats 6400000 in
theorem rl_spec (s : ByteArray) (w : World) (hs : s.size ≤ 1048576) (res : Option Int) (hres : ∀ n, res = some n ↔ isLv n ∧ s = levelB n) :
    Calls Tryz.prog 21 #[.string s] w fun e w' => e = .returned (.tuple #[.int .i64 (res.getD 0), .bool res.isSome]) ∧ Below w.heap.size w w' := by
  have HR := Lib.hid hres
  have NO := Lib.hid (show (∀ p0 p1 m, ¬ LvPt s p0 p1 m) → res = none from fun h => by
    cases hr : res with
    | none => rfl
    | some n => exact absurd (lv_ok ((hres n).1 hr).1 ((hres n).1 hr).2) (h _ _ _))
  clear hres
  by_cases c1 : 6 ≤ s.size
  · have c1' : (6 : Int) ≤ (s.size : Int) := by omega
    have i1 : s.size - 1 < s.size := by omega
    have i2 : (s.size : Int) - 1 < (s.size : Int) := by omega
    have i3 : (0 : Int) < (s.size : Int) := by omega
    have i4 : 0 < s.size := by omega
    have j1 : (1 : Int) ≤ (s.size : Int) - 1 := by omega
    have j2 : (s.size : Int) - 1 ≤ (s.size : Int) := by omega
    have j3 : 1 ≤ s.size - 1 := by omega
    have j4 : s.size - 1 ≤ s.size := by omega
    have hin : (s.extract 1 (s.size - 1)).size ≤ 1048576 := by rw [ByteArray.size_extract]; omega
    by_cases c2 : s[s.size - 1].toNat = 109
    · have e2 : ((s[s.size - 1].toNat : Int) != 109) = false := by simp; omega
      by_cases c3 : s[0].toNat = 43
      · have e3 : ((s[0].toNat : Int) != 43) = false := by simp; omega
        have e5 : ((s[0].toNat : Int) == 45) = false := by simp; omega
        go_enter Tryz.func21, Tryz.ntmps21
        go_wp2_with fail
        refine (l01Split_t (s.extract 1 (s.size - 1)) 46 _ hin (by omega)).mono ?_
        rintro q1 W1 ⟨A, c, rfl, b1, hw⟩
        obtain ⟨P, hP⟩ : ∃ P, P = parts (s.extract 1 (s.size - 1)) 46 := ⟨_, rfl⟩
        have HP := Lib.hid hP
        rw [← hP] at hw ⊢
        have HRd := Lib.hid hw.rd
        clear hw hP
        by_cases c4 : P.length = 2
        · obtain ⟨p0, p1, rfl⟩ : ∃ p0 p1, P = [p0, p1] := by
            match P, c4 with
            | [a, b], _ => exact ⟨a, b, rfl⟩
          obtain ⟨bb, oo, rfl, hbb, hc⟩ := HRd.out.2 (by simp)
          have t0 : W1.cell? ⟨bb, oo, none⟩ = some (.string p0) := hc 0 (by simp)
          have t1 : W1.cell? ⟨bb, oo + 1, none⟩ = some (.string p1) := hc 1 (by simp)
          clear hc
          have P0 := Lib.hid (show ∀ q0 q1, parts (s.extract 1 (s.size - 1)) 46 = [q0, q1] → p0 = q0 ∧ p1 = q1 from fun q0 q1 h => by
            have e := HP.out.trans h
            injection e with e1 e2
            injection e2 with e2 _
            exact ⟨e1, e2⟩)
          by_cases c5 : p1.size = 2
          · have h1 : 0 < p1.size := by omega
            have h2 : 1 < p1.size := by omega
            have x1 : (0 : Int) < (p1.size : Int) := by omega
            have x2 : (1 : Int) < (p1.size : Int) := by omega
            by_cases c6 : dig p1[0]
            · obtain ⟨u1, u2⟩ := c6
              have u1' : (48 : Int) ≤ (p1[0].toNat : Int) := by omega
              have u2' : (p1[0].toNat : Int) ≤ 57 := by omega
              by_cases c7 : dig p1[1]
              · obtain ⟨v1, v2⟩ := c7
                have v1' : (48 : Int) ≤ (p1[1].toNat : Int) := by omega
                have v2' : (p1[1].toNat : Int) ≤ 57 := by omega
                have hp0 := psz HP.out
                obtain ⟨rn, hrn⟩ := dec_res p0.data.toList
                have HRN := Lib.hid hrn
                clear hrn
                go_wp2_with (first | (go_at_call 62; first | (refine (dg_t _ _ (by omega)).mono ?_; rintro e w' ⟨rfl, rfl⟩) | (refine (dg_f _ _ (by omega)).mono ?_; rintro e w' ⟨rfl, rfl⟩)))
                refine (num_spec p0 _ (by omega) rn HRN.out).mono ?_
                rintro q2 W2 ⟨rfl, b2⟩
                have D2 := Lib.hid (b1.trans (b2.mono b1.size))
                cases rn with
                | none =>
                  have hn : res = none := NO.out fun q0 q1 m' k => by have := (HRN.out m').2 (by rw [(P0.out q0 q1 k.pa).1]; exact k.nu); cases this
                  subst hn
                  go_wp2
                  go_ret2
                  exact ⟨rfl, D2.out⟩
                | some m =>
                  have hm : DecOf p0.data.toList m := (HRN.out m).1 rfl
                  by_cases c9 : 0 ≤ m ∧ m ≤ 20
                  · obtain ⟨m1, m2⟩ := c9
                    have OK : LvPt s p0 p1 m := ⟨c1, fun i hi e => (by obtain rfl : i = s.size - 1 := (by omega); exact c2), fun _ => .inl c3, HP.out.symm, c5, fun _ => ⟨u1, u2⟩, fun _ => ⟨v1, v2⟩, hm, ⟨m1, m2⟩⟩
                    have V := Lib.hid (show ∀ n, res = some n → 100 * m + 10 * ((p1[0].toNat : Int) - 48) + ((p1[1].toNat : Int) - 48) = n from fun n h => (lv_val ((HR.out n).1 h).1 ((HR.out n).1 h).2 OK i4 h1 h2).1 c3)
                    have t2 := (b2.cell (p := ⟨bb, oo + 1, none⟩) hbb).trans t1
                    have w0 : IntKind.u8.wrap ((p1[0].toNat : Int) - 48) = (p1[0].toNat : Int) - 48 := by rw [IntKind.wrap_u8]; omega
                    have w1 : IntKind.u8.wrap ((p1[1].toNat : Int) - 48) = (p1[1].toNat : Int) - 48 := by rw [IntKind.wrap_u8]; omega
                    clear OK hm t0 t1 u1 u2 v1 v2
                    go_wp2_with (first | (go_at_call 37; first | (refine (in_t _ _ _ _ (by omega)).mono ?_; rintro e w' ⟨rfl, rfl⟩) | (refine (in_f _ _ _ _ (by omega)).mono ?_; rintro e w' ⟨rfl, rfl⟩)))
                    go_quiet (fail)
                    have D3 := Lib.hid (below_drewN D2.out nq)
                    generalize W2.drewN nq = W3 at D3 ⊢
                    obtain ⟨da, hda⟩ : ∃ da : Int, da = (p1[0].toNat : Int) := ⟨_, rfl⟩
                    obtain ⟨db, hdb⟩ : ∃ db : Int, db = (p1[1].toNat : Int) := ⟨_, rfl⟩
                    have V0 := V.out
                    rw [← hda, ← hdb] at V0 ⊢
                    rw [← hda] at u1' u2'
                    rw [← hdb] at v1' v2'
                    clear hda hdb
                    obtain ⟨v, hv⟩ : ∃ v : Int, v = 100 * m + 10 * (da - 48) + (db - 48) := ⟨_, rfl⟩
                    have hvb : 0 ≤ v ∧ v ≤ 2099 := by omega
                    rw [← hv]
                    have VV := Lib.hid (show ∀ n, res = some n → v = n from fun n h => by have := V0 n h; omega)
                    clear hv V V0 w0 w1 t2 u1' u2' v1' v2'
                    obtain ⟨y1, y2⟩ := hvb
                    by_cases g1 : -2000 ≤ v ∧ v ≤ 2000
                    · obtain ⟨g2, g3⟩ := g1
                      obtain ⟨T, hT⟩ : ∃ T, T = levelB v := ⟨_, rfl⟩
                      have HT := Lib.hid hT
                      have TS := Lib.hid (show ∀ W : World, Calls Tryz.prog 57 #[.int .i64 v] W fun e w' => e = .returned (.string T) ∧ Below W.heap.size W w' from fun W => by rw [hT]; exact text_spec v W g2 g3)
                      clear hT
                      by_cases g4 : s = T
                      · have hr : res = some v := (HR.out v).2 ⟨⟨g2, g3⟩, by rw [← HT.out]; exact g4⟩
                        subst hr
                        subst g4
                        go_wp2_with (first | (go_at_call 51; first | (refine (lv_t _ _ (by omega)).mono ?_; rintro e w' ⟨rfl, rfl⟩) | (refine (lv_f _ _ (by omega)).mono ?_; rintro e w' ⟨rfl, rfl⟩)) | (go_at_call 57; refine (TS.out _).mono ?_; rintro e w4 ⟨rfl, b4⟩))
                        go_ret2
                        exact ⟨rfl, D3.out.trans (b4.mono D3.out.size)⟩
                      · have hn : res = none := by
                          cases hr : res with
                          | none => rfl
                          | some n => exact absurd (by rw [HT.out, VV.out n hr]; exact ((HR.out n).1 hr).2) g4
                        have gf := strF (fun e : T = s => g4 e.symm)
                        subst hn
                        go_wp2_with (first | (go_at_call 51; first | (refine (lv_t _ _ (by omega)).mono ?_; rintro e w' ⟨rfl, rfl⟩) | (refine (lv_f _ _ (by omega)).mono ?_; rintro e w' ⟨rfl, rfl⟩)) | (go_at_call 57; refine (TS.out _).mono ?_; rintro e w4 ⟨rfl, b4⟩))
                        go_ret2
                        exact ⟨rfl, D3.out.trans (b4.mono D3.out.size)⟩
                    · have hn : res = none := by
                        cases hr : res with
                        | none => rfl
                        | some n => exact absurd (by rw [VV.out n hr]; exact ((HR.out n).1 hr).1) g1
                      have g1' : v < -2000 ∨ 2000 < v := by omega
                      clear g1
                      subst hn
                      go_wp2_with (first | (go_at_call 51; first | (refine (lv_t _ _ (by omega)).mono ?_; rintro e w' ⟨rfl, rfl⟩) | (refine (lv_f _ _ (by omega)).mono ?_; rintro e w' ⟨rfl, rfl⟩)))
                      go_ret2
                      exact ⟨rfl, D3.out⟩
                  · have c9' : m < 0 ∨ 20 < m := by omega
                    have hn : res = none := NO.out fun q0 q1 m' k => by have e2 : m = m' := hm.inj (by rw [(P0.out q0 q1 k.pa).1]; exact k.nu); rw [e2] at c9; exact c9 k.bd
                    subst hn
                    clear c9 hm
                    go_wp2_with (first | (go_at_call 37; first | (refine (in_t _ _ _ _ (by omega)).mono ?_; rintro e w' ⟨rfl, rfl⟩) | (refine (in_f _ _ _ _ (by omega)).mono ?_; rintro e w' ⟨rfl, rfl⟩)))
                    go_ret2
                    exact ⟨rfl, D2.out⟩
              · have c7' : (p1[1].toNat : Int) < 48 ∨ 57 < (p1[1].toNat : Int) := by unfold dig at c7; omega
                have hn : res = none := NO.out fun q0 q1 m' k => by obtain ⟨e1, e2⟩ := P0.out q0 q1 k.pa; subst e2; exact c7 (k.d1 h2)
                subst hn
                clear c7
                go_wp2_with (first | (go_at_call 62; first | (refine (dg_t _ _ (by omega)).mono ?_; rintro e w' ⟨rfl, rfl⟩) | (refine (dg_f _ _ (by omega)).mono ?_; rintro e w' ⟨rfl, rfl⟩)))
                go_ret2
                exact ⟨rfl, b1⟩
            · have c6' : (p1[0].toNat : Int) < 48 ∨ 57 < (p1[0].toNat : Int) := by unfold dig at c6; omega
              have hn : res = none := NO.out fun q0 q1 m' k => by obtain ⟨e1, e2⟩ := P0.out q0 q1 k.pa; subst e2; exact c6 (k.d0 h1)
              subst hn
              clear c6
              go_wp2_with (first | (go_at_call 62; first | (refine (dg_t _ _ (by omega)).mono ?_; rintro e w' ⟨rfl, rfl⟩) | (refine (dg_f _ _ (by omega)).mono ?_; rintro e w' ⟨rfl, rfl⟩)))
              go_ret2
              exact ⟨rfl, b1⟩
          · have c5' : ((p1.size : Int) != 2) = true := by simp; omega
            have hn : res = none := NO.out fun q0 q1 m' k => by obtain ⟨e1, e2⟩ := P0.out q0 q1 k.pa; subst e2; exact c5 k.s1
            subst hn
            go_wp2_with (first | (go_at_call 62; first | (refine (dg_t _ _ (by omega)).mono ?_; rintro e w' ⟨rfl, rfl⟩) | (refine (dg_f _ _ (by omega)).mono ?_; rintro e w' ⟨rfl, rfl⟩)))
            go_ret2
            exact ⟨rfl, b1⟩
        · have c4' : ((P.length : Int) != 2) = true := by simp; omega
          have hn : res = none := NO.out fun q0 q1 m' k => by have := HP.out.trans k.pa; rw [this] at c4; exact c4 rfl
          subst hn
          go_wp2_with (first | (go_at_call 62; first | (refine (dg_t _ _ (by omega)).mono ?_; rintro e w' ⟨rfl, rfl⟩) | (refine (dg_f _ _ (by omega)).mono ?_; rintro e w' ⟨rfl, rfl⟩)))
          go_ret2
          exact ⟨rfl, b1⟩
      · have e3 : ((s[0].toNat : Int) != 43) = true := by simp; omega
        have c43 := c3
        clear c3
        by_cases c3 : s[0].toNat = 45
        · have e4 : ((s[0].toNat : Int) != 45) = false := by simp; omega
          have e5 : ((s[0].toNat : Int) == 45) = true := by simp; omega
          go_enter Tryz.func21, Tryz.ntmps21
          go_wp2_with fail
          refine (l01Split_t (s.extract 1 (s.size - 1)) 46 _ hin (by omega)).mono ?_
          rintro q1 W1 ⟨A, c, rfl, b1, hw⟩
          obtain ⟨P, hP⟩ : ∃ P, P = parts (s.extract 1 (s.size - 1)) 46 := ⟨_, rfl⟩
          have HP := Lib.hid hP
          rw [← hP] at hw ⊢
          have HRd := Lib.hid hw.rd
          clear hw hP
          by_cases c4 : P.length = 2
          · obtain ⟨p0, p1, rfl⟩ : ∃ p0 p1, P = [p0, p1] := by
              match P, c4 with
              | [a, b], _ => exact ⟨a, b, rfl⟩
            obtain ⟨bb, oo, rfl, hbb, hc⟩ := HRd.out.2 (by simp)
            have t0 : W1.cell? ⟨bb, oo, none⟩ = some (.string p0) := hc 0 (by simp)
            have t1 : W1.cell? ⟨bb, oo + 1, none⟩ = some (.string p1) := hc 1 (by simp)
            clear hc
            have P0 := Lib.hid (show ∀ q0 q1, parts (s.extract 1 (s.size - 1)) 46 = [q0, q1] → p0 = q0 ∧ p1 = q1 from fun q0 q1 h => by
              have e := HP.out.trans h
              injection e with e1 e2
              injection e2 with e2 _
              exact ⟨e1, e2⟩)
            by_cases c5 : p1.size = 2
            · have h1 : 0 < p1.size := by omega
              have h2 : 1 < p1.size := by omega
              have x1 : (0 : Int) < (p1.size : Int) := by omega
              have x2 : (1 : Int) < (p1.size : Int) := by omega
              by_cases c6 : dig p1[0]
              · obtain ⟨u1, u2⟩ := c6
                have u1' : (48 : Int) ≤ (p1[0].toNat : Int) := by omega
                have u2' : (p1[0].toNat : Int) ≤ 57 := by omega
                by_cases c7 : dig p1[1]
                · obtain ⟨v1, v2⟩ := c7
                  have v1' : (48 : Int) ≤ (p1[1].toNat : Int) := by omega
                  have v2' : (p1[1].toNat : Int) ≤ 57 := by omega
                  have hp0 := psz HP.out
                  obtain ⟨rn, hrn⟩ := dec_res p0.data.toList
                  have HRN := Lib.hid hrn
                  clear hrn
                  go_wp2_with (first | (go_at_call 62; first | (refine (dg_t _ _ (by omega)).mono ?_; rintro e w' ⟨rfl, rfl⟩) | (refine (dg_f _ _ (by omega)).mono ?_; rintro e w' ⟨rfl, rfl⟩)))
                  refine (num_spec p0 _ (by omega) rn HRN.out).mono ?_
                  rintro q2 W2 ⟨rfl, b2⟩
                  have D2 := Lib.hid (b1.trans (b2.mono b1.size))
                  cases rn with
                  | none =>
                    have hn : res = none := NO.out fun q0 q1 m' k => by have := (HRN.out m').2 (by rw [(P0.out q0 q1 k.pa).1]; exact k.nu); cases this
                    subst hn
                    go_wp2
                    go_ret2
                    exact ⟨rfl, D2.out⟩
                  | some m =>
                    have hm : DecOf p0.data.toList m := (HRN.out m).1 rfl
                    by_cases c9 : 0 ≤ m ∧ m ≤ 20
                    · obtain ⟨m1, m2⟩ := c9
                      have OK : LvPt s p0 p1 m := ⟨c1, fun i hi e => (by obtain rfl : i = s.size - 1 := (by omega); exact c2), fun _ => .inr c3, HP.out.symm, c5, fun _ => ⟨u1, u2⟩, fun _ => ⟨v1, v2⟩, hm, ⟨m1, m2⟩⟩
                      have V := Lib.hid (show ∀ n, res = some n → -(100 * m + 10 * ((p1[0].toNat : Int) - 48) + ((p1[1].toNat : Int) - 48)) = n from fun n h => (lv_val ((HR.out n).1 h).1 ((HR.out n).1 h).2 OK i4 h1 h2).2 c3)
                      have t2 := (b2.cell (p := ⟨bb, oo + 1, none⟩) hbb).trans t1
                      have w0 : IntKind.u8.wrap ((p1[0].toNat : Int) - 48) = (p1[0].toNat : Int) - 48 := by rw [IntKind.wrap_u8]; omega
                      have w1 : IntKind.u8.wrap ((p1[1].toNat : Int) - 48) = (p1[1].toNat : Int) - 48 := by rw [IntKind.wrap_u8]; omega
                      clear OK hm t0 t1 u1 u2 v1 v2
                      go_wp2_with (first | (go_at_call 37; first | (refine (in_t _ _ _ _ (by omega)).mono ?_; rintro e w' ⟨rfl, rfl⟩) | (refine (in_f _ _ _ _ (by omega)).mono ?_; rintro e w' ⟨rfl, rfl⟩)))
                      go_quiet (fail)
                      have D3 := Lib.hid (below_drewN D2.out nq)
                      generalize W2.drewN nq = W3 at D3 ⊢
                      obtain ⟨da, hda⟩ : ∃ da : Int, da = (p1[0].toNat : Int) := ⟨_, rfl⟩
                      obtain ⟨db, hdb⟩ : ∃ db : Int, db = (p1[1].toNat : Int) := ⟨_, rfl⟩
                      have V0 := V.out
                      rw [← hda, ← hdb] at V0 ⊢
                      rw [← hda] at u1' u2'
                      rw [← hdb] at v1' v2'
                      clear hda hdb
                      obtain ⟨v, hv⟩ : ∃ v : Int, v = 100 * m + 10 * (da - 48) + (db - 48) := ⟨_, rfl⟩
                      have hvb : 0 ≤ v ∧ v ≤ 2099 := by omega
                      rw [← hv]
                      have VV := Lib.hid (show ∀ n, res = some n → (-v) = n from fun n h => by have := V0 n h; omega)
                      clear hv V V0 w0 w1 t2 u1' u2' v1' v2'
                      obtain ⟨y1, y2⟩ := hvb
                      by_cases g1 : -2000 ≤ (-v) ∧ (-v) ≤ 2000
                      · obtain ⟨g2, g3⟩ := g1
                        obtain ⟨T, hT⟩ : ∃ T, T = levelB (-v) := ⟨_, rfl⟩
                        have HT := Lib.hid hT
                        have TS := Lib.hid (show ∀ W : World, Calls Tryz.prog 57 #[.int .i64 (-v)] W fun e w' => e = .returned (.string T) ∧ Below W.heap.size W w' from fun W => by rw [hT]; exact text_spec (-v) W g2 g3)
                        clear hT
                        by_cases g4 : s = T
                        · have hr : res = some (-v) := (HR.out (-v)).2 ⟨⟨g2, g3⟩, by rw [← HT.out]; exact g4⟩
                          subst hr
                          subst g4
                          go_wp2_with (first | (go_at_call 51; first | (refine (lv_t _ _ (by omega)).mono ?_; rintro e w' ⟨rfl, rfl⟩) | (refine (lv_f _ _ (by omega)).mono ?_; rintro e w' ⟨rfl, rfl⟩)) | (go_at_call 57; refine (TS.out _).mono ?_; rintro e w4 ⟨rfl, b4⟩))
                          go_ret2
                          exact ⟨rfl, D3.out.trans (b4.mono D3.out.size)⟩
                        · have hn : res = none := by
                            cases hr : res with
                            | none => rfl
                            | some n => exact absurd (by rw [HT.out, VV.out n hr]; exact ((HR.out n).1 hr).2) g4
                          have gf := strF (fun e : T = s => g4 e.symm)
                          subst hn
                          go_wp2_with (first | (go_at_call 51; first | (refine (lv_t _ _ (by omega)).mono ?_; rintro e w' ⟨rfl, rfl⟩) | (refine (lv_f _ _ (by omega)).mono ?_; rintro e w' ⟨rfl, rfl⟩)) | (go_at_call 57; refine (TS.out _).mono ?_; rintro e w4 ⟨rfl, b4⟩))
                          go_ret2
                          exact ⟨rfl, D3.out.trans (b4.mono D3.out.size)⟩
                      · have hn : res = none := by
                          cases hr : res with
                          | none => rfl
                          | some n => exact absurd (by rw [VV.out n hr]; exact ((HR.out n).1 hr).1) g1
                        have g1' : (-v) < -2000 ∨ 2000 < (-v) := by omega
                        clear g1
                        subst hn
                        go_wp2_with (first | (go_at_call 51; first | (refine (lv_t _ _ (by omega)).mono ?_; rintro e w' ⟨rfl, rfl⟩) | (refine (lv_f _ _ (by omega)).mono ?_; rintro e w' ⟨rfl, rfl⟩)))
                        go_ret2
                        exact ⟨rfl, D3.out⟩
                    · have c9' : m < 0 ∨ 20 < m := by omega
                      have hn : res = none := NO.out fun q0 q1 m' k => by have e2 : m = m' := hm.inj (by rw [(P0.out q0 q1 k.pa).1]; exact k.nu); rw [e2] at c9; exact c9 k.bd
                      subst hn
                      clear c9 hm
                      go_wp2_with (first | (go_at_call 37; first | (refine (in_t _ _ _ _ (by omega)).mono ?_; rintro e w' ⟨rfl, rfl⟩) | (refine (in_f _ _ _ _ (by omega)).mono ?_; rintro e w' ⟨rfl, rfl⟩)))
                      go_ret2
                      exact ⟨rfl, D2.out⟩
                · have c7' : (p1[1].toNat : Int) < 48 ∨ 57 < (p1[1].toNat : Int) := by unfold dig at c7; omega
                  have hn : res = none := NO.out fun q0 q1 m' k => by obtain ⟨e1, e2⟩ := P0.out q0 q1 k.pa; subst e2; exact c7 (k.d1 h2)
                  subst hn
                  clear c7
                  go_wp2_with (first | (go_at_call 62; first | (refine (dg_t _ _ (by omega)).mono ?_; rintro e w' ⟨rfl, rfl⟩) | (refine (dg_f _ _ (by omega)).mono ?_; rintro e w' ⟨rfl, rfl⟩)))
                  go_ret2
                  exact ⟨rfl, b1⟩
              · have c6' : (p1[0].toNat : Int) < 48 ∨ 57 < (p1[0].toNat : Int) := by unfold dig at c6; omega
                have hn : res = none := NO.out fun q0 q1 m' k => by obtain ⟨e1, e2⟩ := P0.out q0 q1 k.pa; subst e2; exact c6 (k.d0 h1)
                subst hn
                clear c6
                go_wp2_with (first | (go_at_call 62; first | (refine (dg_t _ _ (by omega)).mono ?_; rintro e w' ⟨rfl, rfl⟩) | (refine (dg_f _ _ (by omega)).mono ?_; rintro e w' ⟨rfl, rfl⟩)))
                go_ret2
                exact ⟨rfl, b1⟩
            · have c5' : ((p1.size : Int) != 2) = true := by simp; omega
              have hn : res = none := NO.out fun q0 q1 m' k => by obtain ⟨e1, e2⟩ := P0.out q0 q1 k.pa; subst e2; exact c5 k.s1
              subst hn
              go_wp2_with (first | (go_at_call 62; first | (refine (dg_t _ _ (by omega)).mono ?_; rintro e w' ⟨rfl, rfl⟩) | (refine (dg_f _ _ (by omega)).mono ?_; rintro e w' ⟨rfl, rfl⟩)))
              go_ret2
              exact ⟨rfl, b1⟩
          · have c4' : ((P.length : Int) != 2) = true := by simp; omega
            have hn : res = none := NO.out fun q0 q1 m' k => by have := HP.out.trans k.pa; rw [this] at c4; exact c4 rfl
            subst hn
            go_wp2_with (first | (go_at_call 62; first | (refine (dg_t _ _ (by omega)).mono ?_; rintro e w' ⟨rfl, rfl⟩) | (refine (dg_f _ _ (by omega)).mono ?_; rintro e w' ⟨rfl, rfl⟩)))
            go_ret2
            exact ⟨rfl, b1⟩
        · have e4 : ((s[0].toNat : Int) != 45) = true := by simp; omega
          have hn : res = none := NO.out fun p0 p1 m k => (k.fi i4).elim c43 c3
          subst hn
          go_enter Tryz.func21, Tryz.ntmps21
          go_wp2
          go_ret2
          exact ⟨rfl, Below.refl _ _⟩
    · have hn : res = none := NO.out fun p0 p1 m k => c2 (k.la _ i1 (by omega))
      have e2 : ((s[s.size - 1].toNat : Int) != 109) = true := by simp; omega
      subst hn
      go_enter Tryz.func21, Tryz.ntmps21
      go_wp2
      go_ret2
      exact ⟨rfl, Below.refl _ _⟩
  · have hn : res = none := NO.out fun p0 p1 m k => c1 k.sz
    have c1' : (s.size : Int) < 6 := by omega
    subst hn
    go_enter Tryz.func21, Tryz.ntmps21
    go_wp2
    go_ret2
    exact ⟨rfl, Below.refl _ _⟩

end Go.Proofs.YthfemghfkfmkdaaGreatDoor
