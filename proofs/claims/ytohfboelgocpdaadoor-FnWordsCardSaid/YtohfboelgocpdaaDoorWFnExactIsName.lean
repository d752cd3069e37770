import Derived.Test.YtohfboelgocpdaaDoorChars
import Derived.Test.YtohfboelgocpdaaDoorStr
namespace Go.Proofs.YtohfboelgocpdaaDoor
open Go.RowKit

def smallC (c : Int) : Prop := 97 ≤ c ∧ c ≤ 122
def nameC (c : Int) : Prop := 97 ≤ c ∧ c ≤ 122 ∨ 48 ≤ c ∧ c ≤ 57 ∨ c = 45
def IsNm (s : ByteArray) : Prop := s.size ≤ 12 ∧ (∀ i (h : i < s.size), nameC s[i].toNat) ∧ ∃ h : 0 < s.size, smallC s[0].toNat

/-- The model's loop: it returns whether all bytes are those of a name. -/
theorem spec_name_go (b : Bool) (s : ByteArray) (w : World) (h12 : s.size ≤ 12) (h0 : 0 < s.size) (hsm : smallC s[0].toNat) (hb : b = true ↔ ∀ i (h : i < s.size), nameC s[i].toNat) :
    Calls Tryd.prog 18 #[.string s] w fun e w' => e = .returned (.bool b) ∧ w = w' := by
  have H := Lib.hid hb
  have h1 := isEmpty_f s h0
  unfold smallC at hsm
  obtain ⟨q1, q2⟩ := hsm
  clear hb
  go_enter Tryd.func18, Tryd.ntmps18
  go_wp2_with (first | (go_at_call 37; first | (refine (sm_t _ _ (by omega)).mono ?_; rintro e w' ⟨rfl, rfl⟩) | (refine (sm_f _ _ (by omega)).mono ?_; rintro e w' ⟨rfl, rfl⟩)) | (go_at_call 38; first | (refine (dg_t _ _ (by omega)).mono ?_; rintro e w' ⟨rfl, rfl⟩) | (refine (dg_f _ _ (by omega)).mono ?_; rintro e w' ⟨rfl, rfl⟩)))
  go_loop [3] (fun i => ∃ k : Nat, k ≤ s.size ∧ i = .int .i64 (k : Int) ∧ Hid (∀ j (h : j < s.size), j < k → nameC s[j].toNat)) (fun i => s.size - (intOf i).toNat)
  case atStart => exact ⟨0, by omega, rfl, fun j h hj => absurd hj (by omega)⟩
  case round =>
    obtain ⟨k, hk, rfl, hr⟩ := hrel
    clear q1 q2
    by_cases hlt : k < s.size
    · have hbd : s[k].toNat ≤ 255 := by have := s[k].toNat_lt; omega
      by_cases c1 : 97 ≤ (s[k].toNat : Int) ∧ (s[k].toNat : Int) ≤ 122
      · go_wp2_with (first | (go_at_call 37; first | (refine (sm_t _ _ (by omega)).mono ?_; rintro e w' ⟨rfl, rfl⟩) | (refine (sm_f _ _ (by omega)).mono ?_; rintro e w' ⟨rfl, rfl⟩)) | (go_at_call 38; first | (refine (dg_t _ _ (by omega)).mono ?_; rintro e w' ⟨rfl, rfl⟩) | (refine (dg_f _ _ (by omega)).mono ?_; rintro e w' ⟨rfl, rfl⟩)))
        go_round
        case rel => exact ⟨k + 1, by omega, by go_num, fun j h hj => by
          by_cases e : j = k
          · subst e; exact .inl c1
          · exact hr.out j h (by omega)⟩
        case measure => simp [intOf]; omega
      · by_cases c2 : 48 ≤ (s[k].toNat : Int) ∧ (s[k].toNat : Int) ≤ 57
        · go_wp2_with (first | (go_at_call 37; first | (refine (sm_t _ _ (by omega)).mono ?_; rintro e w' ⟨rfl, rfl⟩) | (refine (sm_f _ _ (by omega)).mono ?_; rintro e w' ⟨rfl, rfl⟩)) | (go_at_call 38; first | (refine (dg_t _ _ (by omega)).mono ?_; rintro e w' ⟨rfl, rfl⟩) | (refine (dg_f _ _ (by omega)).mono ?_; rintro e w' ⟨rfl, rfl⟩)))
          go_round
          case rel => exact ⟨k + 1, by omega, by go_num, fun j h hj => by
            by_cases e : j = k
            · subst e; exact .inr (.inl c2)
            · exact hr.out j h (by omega)⟩
          case measure => simp [intOf]; omega
        · by_cases c3 : (s[k].toNat : Int) = 45
          · have c3' : ((s[k].toNat : Int) != 45) = false := by simp [c3]
            have C3 := Lib.hid c3
            clear c3
            go_wp2_with (first | (go_at_call 37; first | (refine (sm_t _ _ (by omega)).mono ?_; rintro e w' ⟨rfl, rfl⟩) | (refine (sm_f _ _ (by omega)).mono ?_; rintro e w' ⟨rfl, rfl⟩)) | (go_at_call 38; first | (refine (dg_t _ _ (by omega)).mono ?_; rintro e w' ⟨rfl, rfl⟩) | (refine (dg_f _ _ (by omega)).mono ?_; rintro e w' ⟨rfl, rfl⟩)))
            go_round
            case rel => exact ⟨k + 1, by omega, by go_num, fun j h hj => by
              by_cases e : j = k
              · subst e; exact .inr (.inr C3.out)
              · exact hr.out j h (by omega)⟩
            case measure => simp [intOf]; omega
          · have c3' : ((s[k].toNat : Int) != 45) = true := by simpa using c3
            have hbf : b = false := by
              cases hb : b
              · rfl
              · rcases (H.out.1 hb) k hlt with h | h | h
                · exact absurd h c1
                · exact absurd h c2
                · exact absurd h c3
            have HF := Lib.hid hbf
            clear hbf
            go_wp2_with (first | (go_at_call 37; first | (refine (sm_t _ _ (by omega)).mono ?_; rintro e w' ⟨rfl, rfl⟩) | (refine (sm_f _ _ (by omega)).mono ?_; rintro e w' ⟨rfl, rfl⟩)) | (go_at_call 38; first | (refine (dg_t _ _ (by omega)).mono ?_; rintro e w' ⟨rfl, rfl⟩) | (refine (dg_f _ _ (by omega)).mono ?_; rintro e w' ⟨rfl, rfl⟩)))
            go_ret
            exact ⟨ret_bool HF.out.symm, rfl⟩
    · have hbt : b = true := H.out.2 fun i h => hr.out i h (by omega)
      have HT := Lib.hid hbt
      clear hbt
      go_wp2_with (first | (go_at_call 37; first | (refine (sm_t _ _ (by omega)).mono ?_; rintro e w' ⟨rfl, rfl⟩) | (refine (sm_f _ _ (by omega)).mono ?_; rintro e w' ⟨rfl, rfl⟩)) | (go_at_call 38; first | (refine (dg_t _ _ (by omega)).mono ?_; rintro e w' ⟨rfl, rfl⟩) | (refine (dg_f _ _ (by omega)).mono ?_; rintro e w' ⟨rfl, rfl⟩)))
      go_ret
      exact ⟨ret_bool HT.out.symm, rfl⟩

theorem spec_name (b : Bool) (s : ByteArray) (w : World) (hsz : s.size ≤ 1048576) (hb : b = true ↔ IsNm s) :
    Calls Tryd.prog 18 #[.string s] w fun e w' => e = .returned (.bool b) ∧ w = w' := by
  by_cases h0 : s.size = 0
  · have hbf : b = false := by
      cases h : b
      · rfl
      · obtain ⟨_, _, h1, _⟩ := hb.1 h
        omega
    have h1 := isEmpty_t s h0
    subst hbf
    clear hb h0
    go_enter Tryd.func18, Tryd.ntmps18
    go_wp2_with (first | (go_at_call 37; first | (refine (sm_t _ _ (by omega)).mono ?_; rintro e w' ⟨rfl, rfl⟩) | (refine (sm_f _ _ (by omega)).mono ?_; rintro e w' ⟨rfl, rfl⟩)) | (go_at_call 38; first | (refine (dg_t _ _ (by omega)).mono ?_; rintro e w' ⟨rfl, rfl⟩) | (refine (dg_f _ _ (by omega)).mono ?_; rintro e w' ⟨rfl, rfl⟩)))
    go_ret
    exact ⟨rfl, rfl⟩
  · by_cases h12 : s.size ≤ 12
    · have hp : 0 < s.size := by omega
      by_cases hsm : smallC s[0].toNat
      · exact spec_name_go b s w h12 hp hsm ⟨fun h => (hb.1 h).2.1, fun h => hb.2 ⟨h12, h, hp, hsm⟩⟩
      · have hbf : b = false := by
          cases h : b
          · rfl
          · obtain ⟨_, _, h1, h2⟩ := hb.1 h
            exact absurd h2 hsm
        have h1 := isEmpty_f s hp
        have hbd : s[0].toNat ≤ 255 := by have := s[0].toNat_lt; omega
        unfold smallC at hsm
        subst hbf
        clear hb
        go_enter Tryd.func18, Tryd.ntmps18
        go_wp2_with (first | (go_at_call 37; first | (refine (sm_t _ _ (by omega)).mono ?_; rintro e w' ⟨rfl, rfl⟩) | (refine (sm_f _ _ (by omega)).mono ?_; rintro e w' ⟨rfl, rfl⟩)) | (go_at_call 38; first | (refine (dg_t _ _ (by omega)).mono ?_; rintro e w' ⟨rfl, rfl⟩) | (refine (dg_f _ _ (by omega)).mono ?_; rintro e w' ⟨rfl, rfl⟩)))
        go_ret
        exact ⟨rfl, rfl⟩
    · have hbf : b = false := by
        cases h : b
        · rfl
        · exact absurd (hb.1 h).1 h12
      have h1 := isEmpty_f s (by omega)
      subst hbf
      clear hb
      go_enter Tryd.func18, Tryd.ntmps18
      go_wp2_with (first | (go_at_call 37; first | (refine (sm_t _ _ (by omega)).mono ?_; rintro e w' ⟨rfl, rfl⟩) | (refine (sm_f _ _ (by omega)).mono ?_; rintro e w' ⟨rfl, rfl⟩)) | (go_at_call 38; first | (refine (dg_t _ _ (by omega)).mono ?_; rintro e w' ⟨rfl, rfl⟩) | (refine (dg_f _ _ (by omega)).mono ?_; rintro e w' ⟨rfl, rfl⟩)))
      go_ret
      exact ⟨rfl, rfl⟩

theorem impl_name_go (b : Bool) (s : ByteArray) (w : World) (h12 : s.size ≤ 12) (h0 : 0 < s.size) (hb : b = true ↔ IsNm s) :
    Calls Tryd.prog 17 #[.string s] w fun e w' => e = .returned (.bool b) ∧ Below w.heap.size w w' := by
  have H := Lib.hid hb
  clear hb
  go_enter Tryd.func17, Tryd.ntmps17
  go_wp2_with (first | (go_at_call 34; first | (refine (within_t _ _ _ _ (by omega)).mono ?_; rintro e w' ⟨rfl, rfl⟩) | (refine (within_f _ _ _ _ (by omega)).mono ?_; rintro e w' ⟨rfl, rfl⟩)) | (go_at_call 35; first | (refine (ism_t _ _ (by omega)).mono ?_; rintro e w' ⟨rfl, rfl⟩) | (refine (ism_f _ _ (by omega)).mono ?_; rintro e w' ⟨rfl, rfl⟩)) | (go_at_call 36; first | (refine (idg_t _ _ (by omega)).mono ?_; rintro e w' ⟨rfl, rfl⟩) | (refine (idg_f _ _ (by omega)).mono ?_; rintro e w' ⟨rfl, rfl⟩)))
  go_loopw [3, 4, 11, 12, 13, 14] (fun _ _ _ _ _ _ wr => ∃ k : Nat, k ≤ s.size ∧ wr = w.iter s k ∧ Hid (∀ j (h : j < s.size), j < k → nameC s[j].toNat) ∧ Hid (0 < k → smallC s[0].toNat)) (fun _ _ _ _ _ _ wr => s.size - wr.iterPos w.heap.size)
  case atStart => exact ⟨0, by omega, rfl, fun j h hj => absurd hj (by omega), fun h => absurd h (by omega)⟩
  case round =>
    obtain ⟨k, hk, rfl, hr, hsm⟩ := hrel
    by_cases hlt : k < s.size
    · by_cases ha : s[k].toNat < 128
      · have hnx := fun ty => run_next_ascii (P := Tryd.prog) w s k ty hlt ha
        by_cases c1 : 97 ≤ (s[k].toNat : Int) ∧ (s[k].toNat : Int) ≤ 122
        · have hs0 : smallC s[0].toNat := by
            by_cases e : k = 0
            · subst e; exact c1
            · exact hsm.out (by omega)
          have HS := Lib.hid hs0
          clear hs0
          go_wp2_with (first | (go_at_call 35; first | (refine (ism_t _ _ (by omega)).mono ?_; rintro e w' ⟨rfl, rfl⟩) | (refine (ism_f _ _ (by omega)).mono ?_; rintro e w' ⟨rfl, rfl⟩)) | (go_at_call 36; first | (refine (idg_t _ _ (by omega)).mono ?_; rintro e w' ⟨rfl, rfl⟩) | (refine (idg_f _ _ (by omega)).mono ?_; rintro e w' ⟨rfl, rfl⟩)))
          go_roundw
          case rel => exact ⟨k + 1, by omega, rfl, fun j h hj => by
            by_cases e : j = k
            · subst e; exact .inl c1
            · exact hr.out j h (by omega), fun _ => HS.out⟩
          case measure => simp; omega
        · by_cases hk0 : k = 0
          · have hk1 : ((k : Int) == 0) = true := by simp [hk0]
            have hbad : ¬ smallC s[0].toNat := by subst hk0; exact c1
            have HB := Lib.hid hbad
            clear hk0 hbad
            have hbf : b = false := by
              cases hb : b
              · rfl
              · exact absurd (H.out.1 hb).2.2.2 HB.out
            have HF := Lib.hid hbf
            clear hbf
            go_wp2_with (first | (go_at_call 35; first | (refine (ism_t _ _ (by omega)).mono ?_; rintro e w' ⟨rfl, rfl⟩) | (refine (ism_f _ _ (by omega)).mono ?_; rintro e w' ⟨rfl, rfl⟩)) | (go_at_call 36; first | (refine (idg_t _ _ (by omega)).mono ?_; rintro e w' ⟨rfl, rfl⟩) | (refine (idg_f _ _ (by omega)).mono ?_; rintro e w' ⟨rfl, rfl⟩)))
            go_ret
            exact ⟨ret_bool HF.out.symm, (Below.refl _ _).alloc (Nat.le_refl _) _⟩
          · have hk1 : ((k : Int) == 0) = false := by simp [hk0]
            by_cases c2 : 48 ≤ (s[k].toNat : Int) ∧ (s[k].toNat : Int) ≤ 57
            · skip
              go_wp2_with (first | (go_at_call 35; first | (refine (ism_t _ _ (by omega)).mono ?_; rintro e w' ⟨rfl, rfl⟩) | (refine (ism_f _ _ (by omega)).mono ?_; rintro e w' ⟨rfl, rfl⟩)) | (go_at_call 36; first | (refine (idg_t _ _ (by omega)).mono ?_; rintro e w' ⟨rfl, rfl⟩) | (refine (idg_f _ _ (by omega)).mono ?_; rintro e w' ⟨rfl, rfl⟩)))
              go_roundw
              case rel => exact ⟨k + 1, by omega, rfl, fun j h hj => by
                by_cases e : j = k
                · subst e; exact .inr (.inl c2)
                · exact hr.out j h (by omega), fun _ => hsm.out (by omega)⟩
              case measure => simp; omega
            · by_cases c3 : (s[k].toNat : Int) = 45
              · have c3' : ((s[k].toNat : Int) != 45) = false := by simp [c3]
                have C3 := Lib.hid c3
                clear c3
                go_wp2_with (first | (go_at_call 35; first | (refine (ism_t _ _ (by omega)).mono ?_; rintro e w' ⟨rfl, rfl⟩) | (refine (ism_f _ _ (by omega)).mono ?_; rintro e w' ⟨rfl, rfl⟩)) | (go_at_call 36; first | (refine (idg_t _ _ (by omega)).mono ?_; rintro e w' ⟨rfl, rfl⟩) | (refine (idg_f _ _ (by omega)).mono ?_; rintro e w' ⟨rfl, rfl⟩)))
                go_roundw
                case rel => exact ⟨k + 1, by omega, rfl, fun j h hj => by
                  by_cases e : j = k
                  · subst e; exact .inr (.inr C3.out)
                  · exact hr.out j h (by omega), fun _ => hsm.out (by omega)⟩
                case measure => simp; omega
              · have c3' : ((s[k].toNat : Int) != 45) = true := by simpa using c3
                have hnn : ¬ nameC s[k].toNat := by
                  rintro (h | h | h)
                  · exact c1 h
                  · exact c2 h
                  · exact c3 h
                have HB := Lib.hid hnn
                clear hnn
                have hbf : b = false := by
                  cases hb : b
                  · rfl
                  · exact absurd ((H.out.1 hb).2.1 k hlt) HB.out
                have HF := Lib.hid hbf
                clear hbf
                go_wp2_with (first | (go_at_call 35; first | (refine (ism_t _ _ (by omega)).mono ?_; rintro e w' ⟨rfl, rfl⟩) | (refine (ism_f _ _ (by omega)).mono ?_; rintro e w' ⟨rfl, rfl⟩)) | (go_at_call 36; first | (refine (idg_t _ _ (by omega)).mono ?_; rintro e w' ⟨rfl, rfl⟩) | (refine (idg_f _ _ (by omega)).mono ?_; rintro e w' ⟨rfl, rfl⟩)))
                go_ret
                exact ⟨ret_bool HF.out.symm, (Below.refl _ _).alloc (Nat.le_refl _) _⟩
      · have hnx := fun ty => run_next_any (P := Tryd.prog) w s k ty hlt
        obtain ⟨r1, r2⟩ := decode_high s k hlt (by omega)
        have hnn : ¬ nameC s[k].toNat := by
          rintro (h | h | h) <;> omega
        have HB := Lib.hid hnn
        clear hnn
        obtain ⟨r, hr0⟩ : ∃ r, r = (Utf8.decode s k).1 := ⟨_, rfl⟩
        rw [← hr0] at r1 hnx
        clear hr0
        have r3 : ((r : Int) != 45) = true := by simp; omega
        by_cases hk0 : k = 0
        · have hk1 : ((k : Int) == 0) = true := by simp [hk0]
          clear hk0
          have hbf : b = false := by
            cases hb : b
            · rfl
            · exact absurd ((H.out.1 hb).2.1 k hlt) HB.out
          have HF := Lib.hid hbf
          clear hbf
          go_wp2_with (first | (go_at_call 35; first | (refine (ism_t _ _ (by omega)).mono ?_; rintro e w' ⟨rfl, rfl⟩) | (refine (ism_f _ _ (by omega)).mono ?_; rintro e w' ⟨rfl, rfl⟩)) | (go_at_call 36; first | (refine (idg_t _ _ (by omega)).mono ?_; rintro e w' ⟨rfl, rfl⟩) | (refine (idg_f _ _ (by omega)).mono ?_; rintro e w' ⟨rfl, rfl⟩)))
          go_ret
          exact ⟨ret_bool HF.out.symm, (Below.refl _ _).alloc (Nat.le_refl _) _⟩
        · have hk1 : ((k : Int) == 0) = false := by simp [hk0]
          have hbf : b = false := by
            cases hb : b
            · rfl
            · exact absurd ((H.out.1 hb).2.1 k hlt) HB.out
          have HF := Lib.hid hbf
          clear hbf
          go_wp2_with (first | (go_at_call 35; first | (refine (ism_t _ _ (by omega)).mono ?_; rintro e w' ⟨rfl, rfl⟩) | (refine (ism_f _ _ (by omega)).mono ?_; rintro e w' ⟨rfl, rfl⟩)) | (go_at_call 36; first | (refine (idg_t _ _ (by omega)).mono ?_; rintro e w' ⟨rfl, rfl⟩) | (refine (idg_f _ _ (by omega)).mono ?_; rintro e w' ⟨rfl, rfl⟩)))
          go_ret
          exact ⟨ret_bool HF.out.symm, (Below.refl _ _).alloc (Nat.le_refl _) _⟩
    · have hnx := fun ty => run_next_end (P := Tryd.prog) w s k ty hlt
      have hbt : b = true := H.out.2 ⟨h12, fun i h => hr.out i h (by omega), h0, hsm.out (by omega)⟩
      have HT := Lib.hid hbt
      clear hbt
      go_wp2_with (first | (go_at_call 35; first | (refine (ism_t _ _ (by omega)).mono ?_; rintro e w' ⟨rfl, rfl⟩) | (refine (ism_f _ _ (by omega)).mono ?_; rintro e w' ⟨rfl, rfl⟩)) | (go_at_call 36; first | (refine (idg_t _ _ (by omega)).mono ?_; rintro e w' ⟨rfl, rfl⟩) | (refine (idg_f _ _ (by omega)).mono ?_; rintro e w' ⟨rfl, rfl⟩)))
      go_ret
      exact ⟨ret_bool HT.out.symm, (Below.refl _ _).alloc (Nat.le_refl _) _⟩

theorem impl_name (b : Bool) (s : ByteArray) (w : World) (hsz : s.size ≤ 1048576) (hb : b = true ↔ IsNm s) :
    Calls Tryd.prog 17 #[.string s] w fun e w' => e = .returned (.bool b) ∧ Below w.heap.size w w' := by
  by_cases hg : 1 ≤ s.size ∧ s.size ≤ 12
  · exact impl_name_go b s w hg.2 hg.1 hb
  · have hbf : b = false := by
      cases h : b
      · rfl
      · obtain ⟨h1, _, h2, _⟩ := hb.1 h
        omega
    subst hbf
    clear hb
    go_enter Tryd.func17, Tryd.ntmps17
    go_wp2_with (go_at_call 34; first | (refine (within_t _ _ _ _ (by omega)).mono ?_; rintro e w' ⟨rfl, rfl⟩) | (refine (within_f _ _ _ _ (by omega)).mono ?_; rintro e w' ⟨rfl, rfl⟩))
    go_ret
    exact ⟨rfl, Below.refl _ _⟩


end Go.Proofs.YtohfboelgocpdaaDoor
