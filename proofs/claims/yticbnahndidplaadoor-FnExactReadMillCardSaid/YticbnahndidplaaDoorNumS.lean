/- The model's number of a decimal form. -/
import Derived.Test.YticbnahndidplaaDoorNum
import Derived.Test.YticbnahndidplaaDoorDecS
import Derived.Test.YticbnahndidplaaDoorChars
import Derived.Test.YticbnahndidplaaDoorStr
namespace Go.Proofs.YticbnahndidplaaDoor
open Go.RowKit

theorem take_snoc (s : ByteArray) (k : Nat) (h : k < s.size) : s.data.toList.take (k + 1) = s.data.toList.take k ++ [s[k]] := by
  rw [List.take_succ_eq_append_getElem (by simpa using h)]
  rfl

theorem val_take_bd (t : ByteArray) (k m : Nat) (hm : k ≤ m) (h : ∀ j (hj : j < t.size), j < k → dig t[j]) : valA 0 (t.data.toList.take k) < 10 ^ m := by
  have h1 := valA_bd (t.data.toList.take k) 0 (by
    intro c hc
    obtain ⟨j, hj, rfl⟩ := List.mem_iff_getElem.1 hc
    have hj2 : j < k ∧ j < t.data.toList.length := by
      rw [List.length_take] at hj
      omega
    rw [List.getElem_take]
    exact h j hj2.2 hj2.1)
  have h2 : 10 ^ (t.data.toList.take k).length ≤ 10 ^ m := Nat.pow_le_pow_right (by omega) (by rw [List.length_take]; omega)
  omega

theorem mem_byte (t : ByteArray) (k : Nat) (h : k < t.size) : t[k] ∈ t.data.toList := by
  have : t[k] = t.data.toList[k]'h := rfl
  rw [this]
  exact List.getElem_mem _

theorem toList_data (s : ByteArray) : s.toList = s.data.toList := ByteArray.toList_eq _

set_option maxHeartbeats 1000000 in
theorem num_minus (s t : ByteArray) (w : World) (hs : s.size ≤ 1048576) (h0 : 0 < s.size) (hm : s[0].toNat = 45) (ht : s.extract 1 s.size = t) (htl : t.data.toList = strip s.data.toList) (hsz : t.size + 1 = s.size) (res : Option Int) (hres : ∀ n, res = some n ↔ DecOf s.data.toList n) :
    Calls Tryd.prog 34 #[.string s] w fun e w' => e = .returned (.tuple #[.int .i64 (res.getD 0), .bool res.isSome]) ∧ Below w.heap.size w w' := by
  have he := isEmpty_f s h0
  have hm' : ((s[0].toNat : Int) == 45) = true := by simp [hm]
  have HR := Lib.hid hres
  have HT := Lib.hid htl
  have HZ := Lib.hid hsz
  clear hres htl hm hsz
  have hsz : t.size < s.size := by have := HZ.out; omega
  by_cases hl : 1 ≤ t.size ∧ t.size ≤ 18
  · obtain ⟨hl1, hl2⟩ := hl
    go_enter Tryd.func34, Tryd.ntmps34
    go_wp2_with fail
    go_loop [5, 6] (fun x i => ∃ k : Nat, k ≤ t.size ∧ i = .int .i64 (k : Int) ∧ x = .int .i64 ((valA 0 (t.data.toList.take k) : Nat) : Int) ∧ Hid (∀ j (hj : j < t.size), j < k → dig t[j])) (fun _ i => t.size - (intOf i).toNat)
    case atStart => exact ⟨0, by omega, rfl, rfl, fun j hj h => absurd h (by omega)⟩
    case round =>
      obtain ⟨k, hk, rfl, rfl, hd⟩ := hrel
      by_cases hlt : k < t.size
      · have hvb := val_take_bd t k 17 (by omega) hd.out
        rw [show 10 ^ 17 = 100000000000000000 from rfl] at hvb
        have hbd : t[k].toNat ≤ 255 := by have := t[k].toNat_lt; omega
        have hsn := valA_snoc t[k] (t.data.toList.take k) 0
        rw [← take_snoc t k hlt] at hsn
        have HS := Lib.hid hsn
        clear hsn
        obtain ⟨v, hv⟩ : ∃ v, v = valA 0 (t.data.toList.take k) := ⟨_, rfl⟩
        rw [← hv] at hvb HS ⊢
        clear hv
        by_cases hdg : 48 ≤ t[k].toNat ∧ t[k].toNat ≤ 57
        · obtain ⟨d1, d2⟩ := hdg
          go_wp2_with (go_at_call 33; first | (refine (dg_t _ _ (by omega)).mono ?_; rintro e w' ⟨rfl, rfl⟩) | (refine (dg_f _ _ (by omega)).mono ?_; rintro e w' ⟨rfl, rfl⟩))
          go_round
          case rel => exact ⟨k + 1, by omega, by go_num, by rw [HS.out]; go_num, fun j hj h => by
            by_cases e : j = k
            · subst e; exact ⟨d1, d2⟩
            · exact hd.out j hj (by omega)⟩
          case measure => simp [intOf]; omega
        · have hbad : res = none := by
            cases hr : res with
            | none => rfl
            | some n =>
              obtain ⟨e1, _⟩ := (HR.out n).1 hr
              have h2 : strip s.data.toList = Lib.decDigits n.natAbs := by rw [e1, strip_itoa]
              rw [← HT.out] at h2
              have h3 := mem_byte t k hlt
              rw [h2] at h3
              exact absurd (dec_dig _ _ h3) hdg
          subst hbad
          go_wp2_with (go_at_call 33; first | (refine (dg_t _ _ (by omega)).mono ?_; rintro e w' ⟨rfl, rfl⟩) | (refine (dg_f _ _ (by omega)).mono ?_; rintro e w' ⟨rfl, rfl⟩))
          go_ret2
          exact ⟨rfl, Below.refl _ _⟩
      · obtain rfl : k = t.size := by omega
        have hvb := val_take_bd t t.size 18 (by omega) hd.out
        rw [show 10 ^ 18 = 1000000000000000000 from rfl] at hvb
        have htk : t.data.toList.take t.size = t.data.toList := List.take_of_length_le (Nat.le_refl _)
        rw [htk] at hvb ⊢
        obtain ⟨v, hv⟩ : ∃ v, v = valA 0 t.data.toList := ⟨_, rfl⟩
        rw [← hv] at hvb ⊢
        have HV := Lib.hid hv
        clear hv htk
        by_cases hq : Lib.itoa (-(v : Int)) = s.data.toList
        · have hres : res = some (-(v : Int)) := (HR.out _).2 ⟨hq.symm, by rw [← HT.out]; exact hl2⟩
          have hq' : (Lib.itoa (-(v : Int)) == s.toList) = true := by rw [toList_data, hq]; simp
          subst hres
          have HQ := Lib.hid hq
          clear hq
          go_wp2_with (first | (go_at_call 33; first | (refine (dg_t _ _ (by omega)).mono ?_; rintro e w' ⟨rfl, rfl⟩) | (refine (dg_f _ _ (by omega)).mono ?_; rintro e w' ⟨rfl, rfl⟩)) | (go_at_call 64; refine (dec_spec (-(v : Int)) _ ⟨by omega, by omega⟩).mono ?_; rintro e w1 ⟨rfl, b1⟩))
          go_ret2
          exact ⟨rfl, b1⟩
        · have hq' : (Lib.itoa (-(v : Int)) == s.toList) = false := by rw [toList_data]; simpa using hq
          have hbad : res = none := by
            cases hr : res with
            | none => rfl
            | some n =>
              obtain ⟨e1, e2⟩ := (HR.out n).1 hr
              exfalso
              apply hq
              have h2 : strip s.data.toList = Lib.decDigits n.natAbs := by rw [e1, strip_itoa]
              rw [← HT.out] at h2
              have h3 : v = n.natAbs := by rw [HV.out, h2, val_dec]
              have h2' : strip s.data.toList = Lib.decDigits n.natAbs := by rw [e1, strip_itoa]
              have h5 : -(v : Int) = n := by
                have h6 : n < 0 := by
                  by_cases h7 : n < 0
                  · exact h7
                  · exfalso
                    have h8 : s.data.toList = strip s.data.toList := by rw [h2', e1]; unfold Lib.itoa; rw [if_neg h7]; congr 1; omega
                    have h9 : s.data.toList.length = t.data.toList.length := by rw [HT.out, ← h8]
                    have h10 : s.size = t.size := h9
                    omega
                omega
              rw [e1, h5]
          subst hbad
          have HQ := Lib.hid hq
          clear hq
          go_wp2_with (first | (go_at_call 33; first | (refine (dg_t _ _ (by omega)).mono ?_; rintro e w' ⟨rfl, rfl⟩) | (refine (dg_f _ _ (by omega)).mono ?_; rintro e w' ⟨rfl, rfl⟩)) | (go_at_call 64; refine (dec_spec (-(v : Int)) _ ⟨by omega, by omega⟩).mono ?_; rintro e w1 ⟨rfl, b1⟩))
          go_ret2
          exact ⟨rfl, b1⟩
  · skip
    have hbad : res = none := by
      cases hr : res with
      | none => rfl
      | some n =>
        obtain ⟨e1, e2⟩ := (HR.out n).1 hr
        have h2 : (strip s.data.toList).length = t.size := by rw [← HT.out]; rfl
        have h3 : strip s.data.toList ≠ [] := by rw [e1, strip_itoa]; exact dec_ne _
        have h4 : 0 < (strip s.data.toList).length := List.length_pos_iff.2 h3
        omega
    subst hbad
    have hz : t.size < 1 ∨ 18 < t.size := by omega
    clear hl
    rcases hz with hz | hz
    all_goals first
      | (exfalso; omega)
      | (go_enter Tryd.func34, Tryd.ntmps34
         go_wp2_with fail
         go_ret2
         exact ⟨rfl, Below.refl _ _⟩)

set_option maxHeartbeats 1000000 in
theorem num_plain (s : ByteArray) (w : World) (hs : s.size ≤ 1048576) (h0 : 0 < s.size) (hm : s[0].toNat ≠ 45) (htl : s.data.toList = strip s.data.toList) (res : Option Int) (hres : ∀ n, res = some n ↔ DecOf s.data.toList n) :
    Calls Tryd.prog 34 #[.string s] w fun e w' => e = .returned (.tuple #[.int .i64 (res.getD 0), .bool res.isSome]) ∧ Below w.heap.size w w' := by
  have he := isEmpty_f s h0
  have hm' : ((s[0].toNat : Int) == 45) = false := by simp; omega
  have HR := Lib.hid hres
  have HT := Lib.hid htl
  clear hres htl hm
  by_cases hl : 1 ≤ s.size ∧ s.size ≤ 18
  · obtain ⟨hl1, hl2⟩ := hl
    go_enter Tryd.func34, Tryd.ntmps34
    go_wp2_with fail
    go_loop [5, 6] (fun x i => ∃ k : Nat, k ≤ s.size ∧ i = .int .i64 (k : Int) ∧ x = .int .i64 ((valA 0 (s.data.toList.take k) : Nat) : Int) ∧ Hid (∀ j (hj : j < s.size), j < k → dig s[j])) (fun _ i => s.size - (intOf i).toNat)
    case atStart => exact ⟨0, by omega, rfl, rfl, fun j hj h => absurd h (by omega)⟩
    case round =>
      obtain ⟨k, hk, rfl, rfl, hd⟩ := hrel
      by_cases hlt : k < s.size
      · have hvb := val_take_bd s k 17 (by omega) hd.out
        rw [show 10 ^ 17 = 100000000000000000 from rfl] at hvb
        have hbd : s[k].toNat ≤ 255 := by have := s[k].toNat_lt; omega
        have hsn := valA_snoc s[k] (s.data.toList.take k) 0
        rw [← take_snoc s k hlt] at hsn
        have HS := Lib.hid hsn
        clear hsn
        obtain ⟨v, hv⟩ : ∃ v, v = valA 0 (s.data.toList.take k) := ⟨_, rfl⟩
        rw [← hv] at hvb HS ⊢
        clear hv
        by_cases hdg : 48 ≤ s[k].toNat ∧ s[k].toNat ≤ 57
        · obtain ⟨d1, d2⟩ := hdg
          go_wp2_with (go_at_call 33; first | (refine (dg_t _ _ (by omega)).mono ?_; rintro e w' ⟨rfl, rfl⟩) | (refine (dg_f _ _ (by omega)).mono ?_; rintro e w' ⟨rfl, rfl⟩))
          go_round
          case rel => exact ⟨k + 1, by omega, by go_num, by rw [HS.out]; go_num, fun j hj h => by
            by_cases e : j = k
            · subst e; exact ⟨d1, d2⟩
            · exact hd.out j hj (by omega)⟩
          case measure => simp [intOf]; omega
        · have hbad : res = none := by
            cases hr : res with
            | none => rfl
            | some n =>
              obtain ⟨e1, _⟩ := (HR.out n).1 hr
              have h2 : strip s.data.toList = Lib.decDigits n.natAbs := by rw [e1, strip_itoa]
              rw [← HT.out] at h2
              have h3 := mem_byte s k hlt
              rw [h2] at h3
              exact absurd (dec_dig _ _ h3) hdg
          subst hbad
          go_wp2_with (go_at_call 33; first | (refine (dg_t _ _ (by omega)).mono ?_; rintro e w' ⟨rfl, rfl⟩) | (refine (dg_f _ _ (by omega)).mono ?_; rintro e w' ⟨rfl, rfl⟩))
          go_ret2
          exact ⟨rfl, Below.refl _ _⟩
      · obtain rfl : k = s.size := by omega
        have hvb := val_take_bd s s.size 18 (by omega) hd.out
        rw [show 10 ^ 18 = 1000000000000000000 from rfl] at hvb
        have htk : s.data.toList.take s.size = s.data.toList := List.take_of_length_le (Nat.le_refl _)
        rw [htk] at hvb ⊢
        obtain ⟨v, hv⟩ : ∃ v, v = valA 0 s.data.toList := ⟨_, rfl⟩
        rw [← hv] at hvb ⊢
        have HV := Lib.hid hv
        clear hv htk
        by_cases hq : Lib.itoa (v : Int) = s.data.toList
        · have hres : res = some (v : Int) := (HR.out _).2 ⟨hq.symm, by rw [← HT.out]; exact hl2⟩
          have hq' : (Lib.itoa (v : Int) == s.toList) = true := by rw [toList_data, hq]; simp
          subst hres
          have HQ := Lib.hid hq
          clear hq
          go_wp2_with (first | (go_at_call 33; first | (refine (dg_t _ _ (by omega)).mono ?_; rintro e w' ⟨rfl, rfl⟩) | (refine (dg_f _ _ (by omega)).mono ?_; rintro e w' ⟨rfl, rfl⟩)) | (go_at_call 64; refine (dec_spec (v : Int) _ ⟨by omega, by omega⟩).mono ?_; rintro e w1 ⟨rfl, b1⟩))
          go_ret2
          exact ⟨rfl, b1⟩
        · have hq' : (Lib.itoa (v : Int) == s.toList) = false := by rw [toList_data]; simpa using hq
          have hbad : res = none := by
            cases hr : res with
            | none => rfl
            | some n =>
              obtain ⟨e1, e2⟩ := (HR.out n).1 hr
              exfalso
              apply hq
              have h2 : strip s.data.toList = Lib.decDigits n.natAbs := by rw [e1, strip_itoa]
              rw [← HT.out] at h2
              have h3 : v = n.natAbs := by rw [HV.out, h2, val_dec]
              have h5 : (v : Int) = n := by
                have h6 : ¬ n < 0 := by
                  intro h7
                  have h8 : s.data.toList = 45 :: Lib.decDigits n.natAbs := by rw [e1]; unfold Lib.itoa; rw [if_pos h7]
                  have h9 : strip s.data.toList = Lib.decDigits n.natAbs := by rw [e1, strip_itoa]
                  rw [← HT.out, h8] at h9
                  have h10 := congrArg List.length h9
                  simp at h10
                omega
              rw [e1, h5]
          subst hbad
          have HQ := Lib.hid hq
          clear hq
          go_wp2_with (first | (go_at_call 33; first | (refine (dg_t _ _ (by omega)).mono ?_; rintro e w' ⟨rfl, rfl⟩) | (refine (dg_f _ _ (by omega)).mono ?_; rintro e w' ⟨rfl, rfl⟩)) | (go_at_call 64; refine (dec_spec (v : Int) _ ⟨by omega, by omega⟩).mono ?_; rintro e w1 ⟨rfl, b1⟩))
          go_ret2
          exact ⟨rfl, b1⟩
  · skip
    have hbad : res = none := by
      cases hr : res with
      | none => rfl
      | some n =>
        obtain ⟨e1, e2⟩ := (HR.out n).1 hr
        have h2 : (strip s.data.toList).length = s.size := by rw [← HT.out]; rfl
        have h3 : strip s.data.toList ≠ [] := by rw [e1, strip_itoa]; exact dec_ne _
        have h4 : 0 < (strip s.data.toList).length := List.length_pos_iff.2 h3
        omega
    subst hbad
    have hz : s.size < 1 ∨ 18 < s.size := by omega
    clear hl
    rcases hz with hz | hz
    all_goals first
      | (exfalso; omega)
      | (go_enter Tryd.func34, Tryd.ntmps34
         go_wp2_with fail
         go_ret2
         exact ⟨rfl, Below.refl _ _⟩)

theorem num_spec (s : ByteArray) (w : World) (hs : s.size ≤ 1048576) (res : Option Int) (hres : ∀ n, res = some n ↔ DecOf s.data.toList n) :
    Calls Tryd.prog 34 #[.string s] w fun e w' => e = .returned (.tuple #[.int .i64 (res.getD 0), .bool res.isSome]) ∧ Below w.heap.size w w' := by
  by_cases h0 : s.size = 0
  · have hbad : res = none := by
      cases hr : res with
      | none => rfl
      | some n =>
        obtain ⟨e1, e2⟩ := (hres n).1 hr
        have h1 : s.data.toList.length = 0 := h0
        have h2 : s.data.toList = [] := List.eq_nil_of_length_eq_zero h1
        have h3 := strip_itoa n
        rw [← e1, h2] at h3
        exact absurd h3.symm (dec_ne _)
    subst hbad
    have he := isEmpty_t s h0
    clear hres
    go_enter Tryd.func34, Tryd.ntmps34
    go_wp2_with fail
    go_ret2
    exact ⟨rfl, Below.refl _ _⟩
  · have hp : 0 < s.size := by omega
    cases hl : s.data.toList with
    | nil =>
      have h1 : s.size = s.data.toList.length := rfl
      rw [hl] at h1
      exact absurd h1 h0
    | cons c r =>
      have hc : s[0] = c := by
        have h1 : s[0] = s.data.toList[0]'hp := rfl
        rw [h1]
        simp [hl]
      by_cases hm : s[0].toNat = 45
      · have hc45 : c = 45 := by rw [← hc]; exact UInt8.toNat_inj.1 hm
        have hd : (s.extract 1 s.size).data.toList = r := by
          rw [ByteArray.data_extract, Array.toList_extract]
          rw [List.extract_eq_take_drop, hl]
          have h1 : s.size = r.length + 1 := by
            have h2 : s.size = s.data.toList.length := rfl
            rw [h2, hl]
            rfl
          rw [h1]
          simp
        have hsz : (s.extract 1 s.size).size + 1 = s.size := by
          have h1 : (s.extract 1 s.size).size = (s.extract 1 s.size).data.toList.length := rfl
          have h2 : s.size = s.data.toList.length := rfl
          rw [h1, hd, h2, hl]
          rfl
        exact num_minus s _ w hs hp hm rfl (by rw [hd, hl, hc45, strip_minus]) hsz res hres
      · exact num_plain s w hs hp hm (by
          rw [hl, strip_other c r (by rintro rfl; exact hm (by rw [hc]; rfl))]) res hres


end Go.Proofs.YticbnahndidplaaDoor
