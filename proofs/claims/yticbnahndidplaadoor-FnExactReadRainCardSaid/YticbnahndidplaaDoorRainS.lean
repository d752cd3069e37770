/- ReadRain of the model. -/
import Derived.Test.YticbnahndidplaaDoorRainL
import Derived.Test.YticbnahndidplaaDoorNumS
import Derived.Test.YticbnahndidplaaDoorChars
import Derived.Test.YticbnahndidplaaDoorWFnExactReadDecimal
namespace Go.Proofs.YticbnahndidplaaDoor
open Go.RowKit

theorem psz2 {s p0 p1 : ByteArray} (h : [p0, p1] = parts s 46) : p0.size ≤ s.size := by
  have hm : p0 ∈ parts s 46 := by rw [← h]; simp
  obtain ⟨x, hx, rfl⟩ := List.mem_map.1 hm
  have hb := cuts_bd s 46 _ 0 0 (Nat.le_refl _) (by omega) x hx
  unfold ext
  rw [ByteArray.size_extract]
  omega

theorem p1_same {p q : ByteArray} {a b c d : UInt8} (h : p.data.toList = [a, b, c]) (e : p = q) (k : q.data.toList = [d, 109, 109]) : a = d ∧ [b, c] = [109, 109] := by
  subst e
  have h2 := h.symm.trans k
  injection h2 with h3 h4
  exact ⟨h3, h4⟩
theorem strT2 {a : ByteArray} (h : a = ⟨#[109, 109]⟩) : (a.toList == [109, 109]) = true := by
  have e : (⟨#[109, 109]⟩ : ByteArray).toList = [109, 109] := by rw [ByteArray.toList_eq]
  rw [h, e]; rfl
theorem strF2 {a : ByteArray} (h : ¬ a = ⟨#[109, 109]⟩) : (a.toList == [109, 109]) = false := by
  have e : (⟨#[109, 109]⟩ : ByteArray).toList = [109, 109] := by rw [ByteArray.toList_eq]
  have := strF h
  rw [e] at this
  exact this

set_option maxRecDepth 100000 in
set_option maxHeartbeats 6400000 in
theorem rr_spec (s : ByteArray) (w : World) (hs : s.size ≤ 1048576) (res : Option Int) (hres : ∀ n, res = some n ↔ isRn n ∧ s = rainB n) :
    Calls Tryd.prog 9 #[.string s] w fun e w' => e = .returned (.tuple #[.int .i64 (res.getD 0), .bool res.isSome]) ∧ Below w.heap.size w w' := by
  have NO := Lib.hid (show (∀ p0 p1 m c, ¬ RnOk s p0 p1 m c) → res = none from fun h => by
    cases hr : res with
    | none => rfl
    | some n => exact absurd (rn_ok ((hres n).1 hr).1 ((hres n).1 hr).2) (h _ _ _ _))
  have YES := Lib.hid (show ∀ p0 p1 m c, RnOk s p0 p1 m c → res = some (10 * m + ((c.toNat : Int) - 48)) from fun p0 p1 m c k => (hres _).2 ⟨k.rn, rn_val k⟩)
  clear hres
  go_enter Tryd.func9, Tryd.ntmps9
  go_wp2_with fail
  refine (l01Split_t s 46 _ hs (by omega)).mono ?_
  rintro q1 W1 ⟨A, c, rfl, b1, hw⟩
  obtain ⟨P, hP⟩ : ∃ P, P = parts s 46 := ⟨_, rfl⟩
  have HP := Lib.hid hP
  rw [← hP] at hw ⊢
  have HRd := Lib.hid hw.rd
  clear hw hP
  by_cases c4 : P.length = 2
  · obtain ⟨p0, p1, rfl⟩ : ∃ p0 p1, P = [p0, p1] := by
      match P, c4 with
      | [a, b], _ => exact ⟨a, b, rfl⟩
    obtain ⟨bb, oo, rfl, hbb, hc⟩ := HRd.out.2 (by simp)
    have t0 : W1.cell? ⟨bb, oo, none⟩ = some (.string p0) := hc 0 (by simp)
    have t1 : W1.cell? ⟨bb, oo + 1, none⟩ = some (.string p1) := hc 1 (by simp)
    clear hc
    have P0 := Lib.hid (show ∀ q0 q1, parts s 46 = [q0, q1] → p0 = q0 ∧ p1 = q1 from fun q0 q1 h => by
      have e := HP.out.trans h
      injection e with e1 e2
      injection e2 with e2 _
      exact ⟨e1, e2⟩)
    by_cases c5 : p1.size = 3
    · have h1 : 0 < p1.size := by omega
      have x1 : (0 : Int) < (p1.size : Int) := by omega
      have x3 : (1 : Int) ≤ (p1.size : Int) := by omega
      have x4 : 1 ≤ p1.size := by omega
      have c5' : ((p1.size : Int) != 3) = false := by simp; omega
      obtain ⟨d0, d1, d2, hab⟩ : ∃ a b c, p1.data.toList = [a, b, c] := by
        have hl : p1.data.toList.length = 3 := c5
        match hd2 : p1.data.toList, hl with
        | [a, b, c], _ => exact ⟨a, b, c, rfl⟩
      have hd0 : p1[0] = d0 := by rw [at_list p1 _ hab 0 h1]; rfl
      obtain ⟨RB, hRB⟩ : ∃ RB, RB = p1.extract 1 p1.size := ⟨_, rfl⟩
      have hRl : RB.data.toList = [d1, d2] := by
        rw [hRB, ByteArray.data_extract, Array.toList_extract, List.extract_eq_take_drop, hab, c5]
        rfl
      have HRB := Lib.hid hRB.symm
      have hp0 := psz2 HP.out
      have HAB := Lib.hid hab
      have HD0 := Lib.hid hd0
      clear hRB c5
      by_cases c6 : RB = ⟨#[109, 109]⟩
      · have gm := strT2 c6
        rw [← HRB.out] at gm
        have e12 : d1 = 109 ∧ d2 = 109 := by
          rw [c6] at hRl
          injection hRl with e1 e2
          injection e2 with e2 _
          exact ⟨e1.symm, e2.symm⟩
        obtain ⟨rfl, rfl⟩ := e12
        clear hRl c6
        by_cases c7 : dig d0
        · have c7d := c7
          obtain ⟨u1, u2⟩ := c7
          have u1' : (48 : Int) ≤ (p1[0].toNat : Int) := by rw [hd0]; omega
          have u2' : (p1[0].toNat : Int) ≤ 57 := by rw [hd0]; omega
          obtain ⟨rn, hrn⟩ := dec_res p0.data.toList
          have HRN := Lib.hid hrn
          clear hrn hd0 u1 u2
          go_wp2_with (first | (go_at_call 33; first | (refine (dg_t _ _ (by omega)).mono ?_; rintro e w' ⟨rfl, rfl⟩) | (refine (dg_f _ _ (by omega)).mono ?_; rintro e w' ⟨rfl, rfl⟩)))
          refine (num_spec p0 _ (by omega) rn HRN.out).mono ?_
          rintro q2 W2 ⟨rfl, b2⟩
          have D2 := Lib.hid (b1.trans (b2.mono b1.size))
          cases rn with
          | none =>
            have hn : res = none := NO.out fun q0 q1 m' c' k => by have := (HRN.out m').2 (by rw [(P0.out q0 q1 k.pa).1]; exact k.nu); cases this
            subst hn
            go_wp2
            go_ret2
            exact ⟨rfl, D2.out⟩
          | some m =>
            have hm : DecOf p0.data.toList m := (HRN.out m).1 rfl
            have t2 := (b2.cell (p := ⟨bb, oo + 1, none⟩) hbb).trans t1
            have w0 : IntKind.u8.wrap ((p1[0].toNat : Int) - 48) = (p1[0].toNat : Int) - 48 := by rw [IntKind.wrap_u8]; omega
            by_cases c9 : 0 ≤ m ∧ m ≤ 300
            · have hR : isRn ((10 : Int) * m + ((d0.toNat : Int) - 48)) → res = some ((10 : Int) * m + ((p1[0].toNat : Int) - 48)) := fun g => by
                rw [YES.out p0 p1 m d0 ⟨HP.out.symm, HAB.out, c7d, hm, c9, g⟩, HD0.out]
                try rfl
              have hR2 : ¬ isRn ((10 : Int) * m + ((d0.toNat : Int) - 48)) → res = none := fun g => NO.out fun q0 q1 m' c' k => by
                obtain ⟨e1, e2⟩ := P0.out q0 q1 k.pa
                have e3 : m = m' := hm.inj (by rw [e1]; exact k.nu)
                have e4 : d0 = c' := (p1_same HAB.out e2 k.p1).1
                rw [e3, e4] at g
                exact g k.rn
              have HB := Lib.hid hR
              have HB2 := Lib.hid hR2
              rw [← HD0.out] at HB HB2
              obtain ⟨m1, m2⟩ := c9
              clear hm c7d hR hR2 t0 t1
              obtain ⟨da, hda⟩ : ∃ da : Int, da = (p1[0].toNat : Int) := ⟨_, rfl⟩
              rw [← hda] at HB HB2 u1' u2' w0
              have HDA := Lib.hid hda
              have y1 := IntWalk.i64_in (10 * m) (by omega)
              have y2 := IntWalk.i64_in (10 * m + (da - 48)) (by omega)
              have y3 := IntWalk.i64_in (da - 48) (by omega)
              rw [hda] at w0 y2 y3
              clear hda
              by_cases g : isRn (10 * m + (da - 48))
              · have hr := HB.out g
                subst hr
                rw [HDA.out] at g
                have HG := Lib.hid g
                clear g
                go_wp2_with (first | (go_at_call 35; first | (refine (in_t _ _ _ _ (by omega)).mono ?_; rintro e w' ⟨rfl, rfl⟩) | (refine (in_f _ _ _ _ (by omega)).mono ?_; rintro e w' ⟨rfl, rfl⟩)) | (go_at_call 36; refine (rone_t _ _ HG.out).mono ?_; rintro e w' ⟨rfl, rfl⟩))
                go_ret2
                exact ⟨by simp [HDA.out], D2.out⟩
              · have hr := HB2.out g
                subst hr
                rw [HDA.out] at g
                have HG := Lib.hid g
                clear g
                go_wp2_with (first | (go_at_call 35; first | (refine (in_t _ _ _ _ (by omega)).mono ?_; rintro e w' ⟨rfl, rfl⟩) | (refine (in_f _ _ _ _ (by omega)).mono ?_; rintro e w' ⟨rfl, rfl⟩)) | (go_at_call 36; refine (rone_f _ _ HG.out).mono ?_; rintro e w' ⟨rfl, rfl⟩))
                go_ret2
                exact ⟨rfl, D2.out⟩
            · have c9' : m < 0 ∨ 300 < m := by omega
              have hn : res = none := NO.out fun q0 q1 m' c' k => by have e2 : m = m' := hm.inj (by rw [(P0.out q0 q1 k.pa).1]; exact k.nu); rw [e2] at c9; exact c9 k.bd
              subst hn
              clear c9 hm
              go_wp2_with (first | (go_at_call 35; first | (refine (in_t _ _ _ _ (by omega)).mono ?_; rintro e w' ⟨rfl, rfl⟩) | (refine (in_f _ _ _ _ (by omega)).mono ?_; rintro e w' ⟨rfl, rfl⟩)))
              go_ret2
              exact ⟨rfl, D2.out⟩
        · have c7' : (p1[0].toNat : Int) < 48 ∨ 57 < (p1[0].toNat : Int) := by unfold dig at c7; rw [hd0]; omega
          have hn : res = none := NO.out fun q0 q1 m' c' k => by
            obtain ⟨e1, e2⟩ := P0.out q0 q1 k.pa
            have e4 : d0 = c' := (p1_same HAB.out e2 k.p1).1
            rw [e4] at c7
            exact c7 k.dg
          subst hn
          clear c7 hd0
          go_wp2_with (first | (go_at_call 33; first | (refine (dg_t _ _ (by omega)).mono ?_; rintro e w' ⟨rfl, rfl⟩) | (refine (dg_f _ _ (by omega)).mono ?_; rintro e w' ⟨rfl, rfl⟩)))
          go_ret2
          exact ⟨rfl, b1⟩
      · have gm := strF2 c6
        rw [← HRB.out] at gm
        have hn : res = none := NO.out fun q0 q1 m' c' k => by
          obtain ⟨e1, e2⟩ := P0.out q0 q1 k.pa
          have h := (p1_same HAB.out e2 k.p1).2
          refine c6 (bytes_ext ?_)
          rw [hRl, h]
        subst hn
        clear c6 hRl hd0
        go_wp2_with (first | (go_at_call 33; first | (refine (dg_t _ _ (by omega)).mono ?_; rintro e w' ⟨rfl, rfl⟩) | (refine (dg_f _ _ (by omega)).mono ?_; rintro e w' ⟨rfl, rfl⟩)))
        go_ret2
        exact ⟨rfl, b1⟩
    · have c5' : ((p1.size : Int) != 3) = true := by simp; omega
      have hn : res = none := NO.out fun q0 q1 m' c' k => by
        obtain ⟨e1, e2⟩ := P0.out q0 q1 k.pa
        subst e2
        exact c5 (size_list p1 _ k.p1)
      subst hn
      go_wp2_with (first | (go_at_call 33; first | (refine (dg_t _ _ (by omega)).mono ?_; rintro e w' ⟨rfl, rfl⟩) | (refine (dg_f _ _ (by omega)).mono ?_; rintro e w' ⟨rfl, rfl⟩)))
      go_ret2
      exact ⟨rfl, b1⟩
  · have c4' : ((P.length : Int) != 2) = true := by simp; omega
    have hn : res = none := NO.out fun q0 q1 m' c' k => by have := HP.out.trans k.pa; rw [this] at c4; exact c4 rfl
    subst hn
    go_wp2_with (first | (go_at_call 33; first | (refine (dg_t _ _ (by omega)).mono ?_; rintro e w' ⟨rfl, rfl⟩) | (refine (dg_f _ _ (by omega)).mono ?_; rintro e w' ⟨rfl, rfl⟩)))
    go_ret2
    exact ⟨rfl, b1⟩

end Go.Proofs.YticbnahndidplaaDoor
