/- SplitWords, both sides: the parts between bytes, and the words. -/
import Derived.Test.YticbnahndidplaaDoorWordsP
import Derived.Test.YticbnahndidplaaDoorStrs
import Derived.Test.YticbnahndidplaaDoorShelf
namespace Go.Proofs.YticbnahndidplaaDoor
open Go.RowKit Go.Shelf

theorem bt_eq (s : ByteArray) (i : Nat) (h : i < s.size) : bt s i = s[i].toNat := by
  unfold bt
  show (s.data[i]!).toNat = _
  rw [getElem!_pos s.data i h]
  rfl
def ext (s : ByteArray) (x : Nat × Nat) : ByteArray := s.extract x.1 x.2
def parts (s : ByteArray) (b : Nat) : List ByteArray := (cutsOf s b).map (ext s)
def wordsOf (s : ByteArray) : List ByteArray := ((cutsOf s 32).filter full).map (ext s)
theorem cuts_len (s : ByteArray) (b : Nat) : ∀ (g i a : Nat), (cuts s b g i a).length ≤ g + 1 := by
  intro g
  induction g with
  | zero => intro i a; simp [cuts]
  | succ g ih =>
    intro i a
    have h1 := ih (i + 1) (i + 1)
    have h2 := ih (i + 1) a
    unfold cuts
    split
    · simp only [List.length_cons]; omega
    · omega
theorem parts_len (s : ByteArray) (b : Nat) : (parts s b).length ≤ s.size + 1 := by rw [parts, List.length_map]; exact cuts_len s b _ _ _
theorem wordsOf_len (s : ByteArray) : (wordsOf s).length ≤ s.size + 1 := by
  rw [wordsOf, List.length_map]
  exact Nat.le_trans (List.length_filter_le _ _) (cuts_len s 32 _ _ _)
theorem cuts_bd (s : ByteArray) (b : Nat) : ∀ (g i a : Nat), a ≤ i → i + g = s.size → ∀ x, x ∈ cuts s b g i a → x.1 ≤ x.2 ∧ x.2 ≤ s.size := by
  intro g
  induction g with
  | zero => intro i a h1 h2 x hx; simp [cuts] at hx; subst hx; exact ⟨by show a ≤ s.size; omega, Nat.le_refl _⟩
  | succ g ih =>
    intro i a h1 h2 x hx
    unfold cuts at hx
    split at hx
    · rcases List.mem_cons.1 hx with rfl | hx
      · exact ⟨h1, by show i ≤ s.size; omega⟩
      · exact ih (i + 1) (i + 1) (Nat.le_refl _) (by omega) x hx
    · exact ih (i + 1) a (by omega) (by omega) x hx
theorem ext_empty {s : ByteArray} {x : Nat × Nat} (h : x.1 ≤ x.2 ∧ x.2 ≤ s.size) : ext s x = ⟨#[]⟩ ↔ full x = false := by
  have hz : (ext s x).size = x.2 - x.1 := by unfold ext; rw [ByteArray.size_extract]; omega
  constructor
  · intro e
    rw [e] at hz
    have : (0 : Nat) = x.2 - x.1 := hz
    unfold full
    simp
    omega
  · intro e
    unfold full at e
    simp at e
    have h0 : (ext s x).size = 0 := by omega
    generalize ext s x = y at h0
    apply bytes_ext
    have : y.data.toList.length = 0 := by simpa using h0
    simpa using List.length_eq_zero_iff.1 this
theorem words_filter (s : ByteArray) : wordsOf s = (parts s 32).filter fun y => decide (y ≠ ⟨#[]⟩) := by
  unfold wordsOf parts
  rw [List.filter_map]
  congr 1
  apply List.filter_congr
  intro x hx
  have hb := cuts_bd s 32 s.size 0 0 (Nat.le_refl _) (by omega) x hx
  have := ext_empty hb
  simp only [Function.comp]
  by_cases hf : full x = true
  · rw [hf]
    have hne : ext s x ≠ ⟨#[]⟩ := fun e => by rw [this.1 e] at hf; cases hf
    simp [hne]
  · have hf2 : full x = false := by simpa using hf
    rw [hf2, this.2 hf2]
    simp

theorem cuts_no (s : ByteArray) (b : Nat) : ∀ (g i a : Nat), a ≤ i → i + g = s.size → (∀ j, a ≤ j → j < i → bt s j ≠ b) → ∀ x, x ∈ cuts s b g i a → x.2 ≤ s.size ∧ ∀ j, x.1 ≤ j → j < x.2 → bt s j ≠ b := by
  intro g
  induction g with
  | zero =>
    intro i a h1 h2 h3 x hx
    simp [cuts] at hx
    subst hx
    exact ⟨Nat.le_refl _, fun j h4 h5 => h3 j h4 (by have : j < s.size := h5; omega)⟩
  | succ g ih =>
    intro i a h1 h2 h3 x hx
    unfold cuts at hx
    split at hx
    · rcases List.mem_cons.1 hx with rfl | hx
      · exact ⟨by show i ≤ s.size; omega, fun j h4 h5 => h3 j h4 h5⟩
      · exact ih (i + 1) (i + 1) (Nat.le_refl _) (by omega) (fun j h4 h5 => by omega) x hx
    · rename_i hne
      exact ih (i + 1) a (by omega) (by omega) (fun j h4 h5 => by
        by_cases e : j = i
        · subst e; exact hne
        · exact h3 j h4 (by omega)) x hx
theorem ext_at (s : ByteArray) (x : Nat × Nat) (h : x.2 ≤ s.size) (j : Nat) (hj : j < (ext s x).size) : ((ext s x)[j]).toNat = bt s (x.1 + j) ∧ x.1 + j < x.2 := by
  have hz : (ext s x).size = x.2 - x.1 := by unfold ext; rw [ByteArray.size_extract]; omega
  refine ⟨?_, by omega⟩
  rw [bt_eq s (x.1 + j) (by omega)]
  congr 1
  unfold ext
  exact ByteArray.getElem_extract ..
theorem words_sz (s : ByteArray) : ∀ y, y ∈ wordsOf s → y.size ≤ s.size := by
  intro y hy
  obtain ⟨x, hx, rfl⟩ := List.mem_map.1 hy
  have hb := cuts_bd s 32 s.size 0 0 (Nat.le_refl _) (by omega) x (List.mem_filter.1 hx).1
  unfold ext
  rw [ByteArray.size_extract]
  omega
theorem words_no (s : ByteArray) : ∀ y, y ∈ wordsOf s → y ≠ ⟨#[]⟩ ∧ ∀ j (h : j < y.size), y[j].toNat ≠ 32 := by
  intro y hy
  obtain ⟨x, hx, rfl⟩ := List.mem_map.1 hy
  obtain ⟨hx1, hx2⟩ := List.mem_filter.1 hx
  have hb := cuts_bd s 32 s.size 0 0 (Nat.le_refl _) (by omega) x hx1
  obtain ⟨h1, h2⟩ := cuts_no s 32 s.size 0 0 (Nat.le_refl _) (by omega) (fun j h4 h5 => by omega) x hx1
  refine ⟨fun e => ?_, fun j hj => ?_⟩
  · rw [(ext_empty hb).1 e] at hx2
    cases hx2
  · obtain ⟨e1, e2⟩ := ext_at s x h1 j hj
    rw [e1]
    exact h2 _ (by omega) e2

set_option maxRecDepth 100000 in
set_option maxHeartbeats 3200000 in
theorem l01Split_t (s : ByteArray) (b : Nat) (w : World) (hs : s.size ≤ 1048576) (hb : b < 256) :
    Calls Tryd.prog 32 #[.string s, .int .u8 (b : Int)] w fun e w' => ∃ A c, e = .returned (.slice A (parts s b).length c) ∧ Below w.heap.size w w' ∧ WrS w' w.heap.size A (parts s b).length (parts s b) := by
  obtain ⟨P, hP⟩ : ∃ P, P = parts s b := ⟨_, rfl⟩
  have h0 := Lib.hid (show ([] : List ByteArray) ++ (cuts s b (s.size - 0) 0 0).map (ext s) = P by rw [hP]; rfl)
  rw [← hP]
  clear hP
  go_enter Tryd.func32, Tryd.ntmps32
  go_wp2
  go_loopw [5, 6, 7] (fun V fr ii wr => ∃ (i a : Nat) (xs : List ByteArray), fr = .int .i64 (a : Int) ∧ ii = .int .i64 (i : Int) ∧ a ≤ i ∧ i ≤ s.size ∧ xs.length ≤ i ∧ Below w.heap.size w wr ∧ Hid (xs ++ (cuts s b (s.size - i) i a).map (ext s) = P) ∧ Hid (wr.ownsRow w.heap.size 9 1 V xs.length (xs.map Value.string))) (fun _ _ ii _ => s.size - (intOf ii).toNat)
  case atStart => exact ⟨0, 0, [], rfl, rfl, by omega, by omega, by simp, (Below.refl _ _).alloc (Nat.le_refl _) _, h0, World.ownsRow_made _ _ _ (Nat.le_refl _) (by simp [maxLen]) rfl⟩
  case round =>
    obtain ⟨i, a, xs, rfl, rfl, ha, hi, hx, hbw, HX, HO⟩ := hrel
    have HS := Lib.hid hbw.size
    have hxn : xs.length ≤ 1048576 := by omega
    by_cases hlt : i < s.size
    · have hlt2 : (i : Int) < (s.size : Int) := by omega
      obtain ⟨q, hq⟩ : ∃ q, s.size - i = q + 1 := ⟨s.size - i - 1, by omega⟩
      have hq1 : s.size - (i + 1) = q := by omega
      have hbt := bt_eq s i hlt
      by_cases he : bt s i = b
      · have hx1 : ((s[i].toNat : Int) == (b : Int)) = true := by rw [← hbt, he]; simp
        have HX2 := Lib.hid (show (xs ++ [ext s (a, i)]) ++ (cuts s b (s.size - (i + 1)) (i + 1) (i + 1)).map (ext s) = P by have := HX.out; rw [hq, cuts, if_pos he] at this; rw [hq1, List.append_assoc]; exact this)
        clear hbt he
        go_wp2_with (at_builtin; refine wpl_appS rfl (.tmp 20) (.tmp 25) rfl wr w.heap.size xs.length _ xs (ext s (a, i)) rfl HO.out rfl hxn HS.out ?_; intro v1 w1 hown1 hb1 hz1; have HV := Lib.hid hown1; clear hown1)
        exact ⟨⟨i + 1, i + 1, xs ++ [ext s (a, i)], by rw [show ((i + 1 : Nat) : Int) = (i : Int) + 1 by omega], by rw [show ((i + 1 : Nat) : Int) = (i : Int) + 1 by omega], Nat.le_refl _, by omega, by rw [List.length_append, List.length_singleton]; omega, hbw.trans hb1, HX2, by have := HV.out; rw [List.length_append, List.length_singleton]; exact this⟩, by simp [intOf]; omega⟩
      · have hx1 : ((s[i].toNat : Int) == (b : Int)) = false := by rw [← hbt]; simp; omega
        have HX2 := Lib.hid (show xs ++ (cuts s b (s.size - (i + 1)) (i + 1) a).map (ext s) = P by have := HX.out; rw [hq, cuts, if_neg he] at this; rw [hq1]; exact this)
        clear hbt he
        go_wp2
        exact ⟨⟨i + 1, a, xs, rfl, by rw [show ((i + 1 : Nat) : Int) = (i : Int) + 1 by omega], by omega, by omega, by omega, hbw, HX2, HO⟩, by simp [intOf]; omega⟩
    · obtain rfl : i = s.size := by omega
      have HX2 := Lib.hid (show xs ++ [ext s (a, s.size)] = P by have := HX.out; rw [Nat.sub_self] at this; exact this)
      go_wp2_with (at_builtin; refine wpl_appS rfl (.tmp 29) (.tmp 33) rfl wr w.heap.size xs.length _ xs (ext s (a, s.size)) rfl HO.out rfl hxn HS.out ?_; intro v1 w1 hown1 hb1 hz1; have HV := Lib.hid hown1; clear hown1)
      have hlp : P.length = xs.length + 1 := by rw [← HX2.out, List.length_append, List.length_singleton]
      have hv := HV.out
      rw [HX2.out] at hv
      obtain ⟨A, c, rfl, hw⟩ := own_wrS hv
      go_ret
      rw [hlp]
      exact ⟨A, c, rfl, hbw.trans hb1, hw⟩

/-- the program's blank -/
theorem blank_t (w : World) : PredAt Tryd.prog 78 #[] encR (fun r => r == 32) w := fun W r _ => by
  unfold FnGives
  have e : decide ((r : Int) = 32) = (r == 32) := by
    by_cases h : r = 32
    · subst h; rfl
    · have h2 : ¬ (r : Int) = 32 := by omega
      simp [h, h2]
  go_enter Tryd.func78, Tryd.ntmps78
  go_wp2
  go_ret
  exact ⟨ret_bool (by first | exact e | simpa using e), 0, rfl⟩

set_option maxRecDepth 100000 in
set_option maxHeartbeats 1600000 in
theorem implC_SplitWords (s : ByteArray) (w : World) (hs : s.size ≤ 1048576) :
    Calls Tryd.prog 52 #[.string s] w fun e w' => ∃ A c, e = .returned (.slice A (wordsOf s).length c) ∧ Below w.heap.size w w' ∧ WrS w' w.heap.size A (wordsOf s).length (wordsOf s) := by
  have HG := Lib.hid (show Lib.goFieldsP (fun r => r == 32) s = wordsOf s from words_cuts s)
  go_enter Tryd.func52, Tryd.ntmps52
  go_wp2_with fail
  refine (Tryd.strings_FieldsFunc 78 #[] (enters_of Tryd.func78 (by kernel_rfl) rfl) (fun r => r == 32) s w (by omega) (blank_t w)).mono ?_
  rintro e1 W1 ⟨A, rfl, hA, hown, b1⟩
  rw [HG.out] at hown ⊢
  obtain ⟨A', c', e', hw⟩ := own_wrS hown
  have E := Lib.hid e'
  have HW := Lib.hid hw
  clear hown hw e'
  go_wp2
  go_ret
  cases E.out
  exact ⟨_, _, rfl, b1, HW.out⟩

end Go.Proofs.YticbnahndidplaaDoor
