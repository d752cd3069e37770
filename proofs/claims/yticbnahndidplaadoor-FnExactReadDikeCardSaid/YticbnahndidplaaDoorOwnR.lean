/- Rows of records of the call's own: one field is stored; parts of a row; the records of type Section. -/
import Derived.Test.YticbnahndidplaaDoorCatSection
namespace Go.Proofs.YticbnahndidplaaDoor
open Go.RowKit

theorem own_set {w : World} {base size n cap g : Nat} {e : TypeId} {xs : List Value} (h : w.ownsRow base e size (.slice (some ⟨g, 0, none⟩) n cap) n xs) {i : Nat} (u : Value) :
    (w.setCell ⟨g, i, none⟩ u).ownsRow base e size (.slice (some ⟨g, 0, none⟩) n cap) n (xs.set i u) := by
  obtain ⟨hl, h2⟩ := h
  refine ⟨by simpa using hl, ?_⟩
  rcases h2 with ⟨hv, _⟩ | ⟨g', cap', cur, hv, hb, hg, hnc, hm, hsz, htake⟩
  · cases hv
  · injection hv with e1 _ e3
    injection e1 with e1
    injection e1 with e1
    subst e1
    subst e3
    refine .inr ⟨g, cap, cur.setIfInBounds i u, rfl, hb, heap_setCell_same w g i cur e u hg, hnc, hm, by simpa using hsz, ?_⟩
    rw [Array.toList_setIfInBounds, List.take_set, htake]
theorem own_form' {w : World} {base n size : Nat} {e : TypeId} {v : Value} {xs : List Value} (h : w.ownsRow base e size v n xs) (h0 : 0 < n) : ∃ g cap, v = .slice (some ⟨g, 0, none⟩) n cap ∧ base ≤ g ∧ g < w.heap.size ∧ n ≤ cap := by
  have hlt := h.lt
  rcases h.2 with ⟨rfl, rfl⟩ | ⟨g, cap, cur, rfl, hb, hg, hnc, _⟩
  · exact absurd h0 (by omega)
  · exact ⟨g, cap, rfl, hb, (hlt g rfl).2, hnc⟩
theorem csS_cons (x : RSection) (xs : List RSection) : csSection (x :: xs) = .int .i64 x.f0 :: .int .i64 x.f1 :: csSection xs := rfl
theorem csS_set0 (xs : List RSection) (k : Nat) (h : k < xs.length) (y : Int) : csSection (xs.set k ⟨y, (xs.getD k zSection).f1⟩) = (csSection xs).set (k * 2) (.int .i64 y) := by
  induction xs generalizing k with
  | nil => simp at h
  | cons x xs ih =>
    cases k with
    | zero => rfl
    | succ k =>
      rw [List.set_cons_succ, csS_cons, csS_cons, show (k + 1) * 2 = k * 2 + 1 + 1 by omega, List.set_cons_succ, List.set_cons_succ]
      have := ih k (by simpa using h)
      rw [← this]
      rfl
theorem csS_set1 (xs : List RSection) (k : Nat) (h : k < xs.length) (y : Int) : csSection (xs.set k ⟨(xs.getD k zSection).f0, y⟩) = (csSection xs).set (k * 2 + 1) (.int .i64 y) := by
  induction xs generalizing k with
  | nil => simp at h
  | cons x xs ih =>
    cases k with
    | zero => rfl
    | succ k =>
      rw [List.set_cons_succ, csS_cons, csS_cons, show (k + 1) * 2 + 1 = k * 2 + 1 + 1 + 1 by omega, List.set_cons_succ, List.set_cons_succ]
      have := ih k (by simpa using h)
      rw [← this]
      rfl
/-- one field of a record of one's own is stored -/
theorem Wr_Section.put0 {w : World} {lo b o n k : Nat} {xs : List RSection} (h : Wr_Section w lo (some ⟨b, o, none⟩) n xs) (hk : k < n) (y : Int) : Wr_Section (w.setCell ⟨b, o + k * 2, none⟩ (.int .i64 y)) lo (some ⟨b, o, none⟩) n (xs.set k ⟨y, (xs.getD k zSection).f1⟩) := by
  have hl := h.len
  unfold Wr_Section
  rw [csS_set0 xs k (by omega) y]
  exact WrC.put h (by rw [csSection_len]; omega) _
theorem Wr_Section.put1 {w : World} {lo b o n k : Nat} {xs : List RSection} (h : Wr_Section w lo (some ⟨b, o, none⟩) n xs) (hk : k < n) (y : Int) : Wr_Section (w.setCell ⟨b, o + k * 2 + 1, none⟩ (.int .i64 y)) lo (some ⟨b, o, none⟩) n (xs.set k ⟨(xs.getD k zSection).f0, y⟩) := by
  have hl := h.len
  unfold Wr_Section
  rw [csS_set1 xs k (by omega) y]
  exact WrC.put (i := k * 2 + 1) h (by rw [csSection_len]; omega) _
theorem own_set0 {w : World} {base n cap g k : Nat} {e : TypeId} {xs : List RSection} (h : w.ownsRow base e 2 (.slice (some ⟨g, 0, none⟩) n cap) n (csSection xs)) (hk : k < xs.length) (y : Int) :
    (w.setCell ⟨g, k * 2, none⟩ (.int .i64 y)).ownsRow base e 2 (.slice (some ⟨g, 0, none⟩) n cap) n (csSection (xs.set k ⟨y, (xs.getD k zSection).f1⟩)) := by
  rw [csS_set0 xs k hk y]; exact own_set h _
theorem own_set1 {w : World} {base n cap g k : Nat} {e : TypeId} {xs : List RSection} (h : w.ownsRow base e 2 (.slice (some ⟨g, 0, none⟩) n cap) n (csSection xs)) (hk : k < xs.length) (y : Int) :
    (w.setCell ⟨g, k * 2 + 1, none⟩ (.int .i64 y)).ownsRow base e 2 (.slice (some ⟨g, 0, none⟩) n cap) n (csSection (xs.set k ⟨(xs.getD k zSection).f0, y⟩)) := by
  rw [csS_set1 xs k hk y]; exact own_set h _
theorem ownsR_made {W : World} {k base s : Nat} {e : TypeId} (hk : W.heap.size = k) (hb : base ≤ k) : (W.alloc (.cells #[] e)).ownsRow base e s (.slice (some ⟨k, 0, none⟩) 0 0) 0 [] := by
  subst hk
  exact ⟨by simp, .inr ⟨_, 0, #[], rfl, hb, heap_alloc_new W _, Nat.le_refl _, Nat.zero_le _, by simp, by simp⟩⟩

theorem flat_take' {α : Type} {enc : α → List Value} {s : Nat} (hs : ∀ x, (enc x).length = s) (xs : List α) (k : Nat) (hk : k ≤ xs.length) : (xs.take k).flatMap enc = (xs.flatMap enc).take (k * s) := by
  induction xs generalizing k with
  | nil => simp
  | cons x xs ih =>
    cases k with
    | zero => simp
    | succ k =>
      simp only [List.take_succ_cons, List.flatMap_cons]
      rw [ih k (by simpa using hk), List.take_append, hs x, List.take_of_length_le (l := enc x) (by rw [hs x, Nat.succ_mul]; omega), show (k + 1) * s - s = k * s by rw [Nat.succ_mul]; omega]
theorem flat_drop' {α : Type} {enc : α → List Value} {s : Nat} (hs : ∀ x, (enc x).length = s) (xs : List α) (k : Nat) (hk : k ≤ xs.length) : (xs.drop k).flatMap enc = (xs.flatMap enc).drop (k * s) := by
  induction xs generalizing k with
  | nil => simp
  | cons x xs ih =>
    cases k with
    | zero => simp
    | succ k =>
      simp only [List.drop_succ_cons, List.flatMap_cons]
      rw [ih k (by simpa using hk), List.drop_append, hs x, List.drop_of_length_le (l := enc x) (by rw [hs x, Nat.succ_mul]; omega), show (k + 1) * s - s = k * s by rw [Nat.succ_mul]; omega, List.nil_append]
theorem RdC.take' {w : World} {B n s : Nat} {A : Option Addr} {cs : List Value} (h : RdC w B A n s cs) {k : Nat} (hk : k ≤ n) : RdC w B A k s (cs.take (k * s)) := by
  have hm := Nat.mul_le_mul_right s hk
  refine ⟨by rw [List.length_take, h.1]; omega, fun h0 => ?_⟩
  obtain ⟨b, off, e, hB, hc⟩ := h.2 (by omega)
  refine ⟨b, off, e, hB, fun j hj => ?_⟩
  rw [List.length_take] at hj
  rw [List.getElem?_take, if_pos (by omega)]
  exact hc j (by omega)
theorem RdC.drop' {w : World} {B n s b o : Nat} {cs : List Value} (h : RdC w B (some ⟨b, o, none⟩) n s cs) {k : Nat} (hk : k ≤ n) : RdC w B (some ⟨b, o + k * s, none⟩) (n - k) s (cs.drop (k * s)) := by
  have hm := Nat.mul_le_mul_right s hk
  refine ⟨by rw [List.length_drop, h.1, Nat.sub_mul], fun h0 => ?_⟩
  obtain ⟨b', off, e, hB, hc⟩ := h.2 (by omega)
  injection e with e
  injection e with e1 e2
  subst e1
  subst e2
  refine ⟨b, o + k * s, rfl, hB, fun j hj => ?_⟩
  rw [List.length_drop] at hj
  rw [List.getElem?_drop, Nat.add_assoc]
  exact hc (k * s + j) (by omega)
theorem Rd_Section.take {w : World} {B n : Nat} {A : Option Addr} {xs : List RSection} (h : Rd_Section w B A n xs) {k : Nat} (hk : k ≤ n) : Rd_Section w B A k (xs.take k) := by
  have hl := h.len
  unfold Rd_Section csSection
  rw [flat_take' encSection_len xs k (by omega)]
  exact RdC.take' h hk
theorem Rd_Section.drop {w : World} {B n b o : Nat} {xs : List RSection} (h : Rd_Section w B (some ⟨b, o, none⟩) n xs) {k : Nat} (hk : k ≤ n) : Rd_Section w B (some ⟨b, o + k * 2, none⟩) (n - k) (xs.drop k) := by
  have hl := h.len
  unfold Rd_Section csSection
  rw [flat_drop' encSection_len xs k (by omega)]
  exact RdC.drop' h hk

end Go.Proofs.YticbnahndidplaaDoor
