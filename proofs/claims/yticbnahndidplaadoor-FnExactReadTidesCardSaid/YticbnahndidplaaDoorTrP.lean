/- Tides out of texts: plain mathematics. -/
import Derived.Test.YticbnahndidplaaDoorTtI
import Derived.Test.YticbnahndidplaaDoorPairP
import Derived.Test.YticbnahndidplaaDoorWFnExactReadDecimal
namespace Go.Proofs.YticbnahndidplaaDoor
open Go.RowKit

/-- the first sign b in a list -/
theorem index_app (b : UInt8) : ∀ (x y : List UInt8), (∀ c ∈ x, c ≠ b) → Lib.index (x ++ b :: y) [b] = (x.length : Int) := by
  intro x
  induction x with
  | nil => intro y _; show Lib.index (b :: y) [b] = 0; unfold Lib.index; rw [if_pos (by simp [List.isPrefixOf])]
  | cons c t ih =>
    intro y h
    show Lib.index (c :: (t ++ b :: y)) [b] = _
    unfold Lib.index
    have hc : (b == c) = false := by simpa using fun e : b = c => h c List.mem_cons_self e.symm
    rw [if_neg (by simp [List.isPrefixOf, hc]), ih y (fun d hd => h d (List.mem_cons_of_mem _ hd))]
    rw [if_neg (by first | (simp; done) | (simp; omega))]
    simp
theorem index_no (b : UInt8) : ∀ (x : List UInt8), (∀ c ∈ x, c ≠ b) → Lib.index x [b] = -1 := by
  intro x
  induction x with
  | nil => intro _; rfl
  | cons c t ih =>
    intro h
    unfold Lib.index
    have hc : (b == c) = false := by simpa using fun e : b = c => h c List.mem_cons_self e.symm
    rw [if_neg (by simp [List.isPrefixOf, hc]), ih (fun d hd => h d (List.mem_cons_of_mem _ hd))]
    rfl
theorem cut_app (b : UInt8) (x y : List UInt8) (h : ∀ c ∈ x, c ≠ b) : Lib.cut (x ++ b :: y) [b] = (x, y, true) := by
  unfold Lib.cut
  rw [index_app b x y h, if_pos (by omega)]
  simp
theorem cut_no (b : UInt8) (x : List UInt8) (h : ∀ c ∈ x, c ≠ b) : Lib.cut x [b] = (x, [], false) := by
  unfold Lib.cut
  rw [index_no b x h, if_neg (by omega)]
theorem first_or (b : UInt8) : ∀ l : List UInt8, (∃ x y, l = x ++ b :: y ∧ ∀ c ∈ x, c ≠ b) ∨ ∀ c ∈ l, c ≠ b := by
  intro l
  induction l with
  | nil => exact .inr fun c hc => by cases hc
  | cons c t ih =>
    by_cases h : c = b
    · exact .inl ⟨[], t, by rw [h]; rfl, fun d hd => by cases hd⟩
    · rcases ih with ⟨x, y, rfl, hx⟩ | hn
      · exact .inl ⟨c :: x, y, rfl, fun d hd => by
          rcases List.mem_cons.1 hd with rfl | hd
          · exact h
          · exact hx d hd⟩
      · exact .inr fun d hd => by
          rcases List.mem_cons.1 hd with rfl | hd
          · exact h
          · exact hn d hd
theorem strT {a b : ByteArray} (h : a = b) : (a.toList == b.toList) = true := by subst h; simp
theorem strF {a b : ByteArray} (h : ¬ a = b) : (a.toList == b.toList) = false := by
  have h2 : ¬ a.toList = b.toList := fun e => h (by rw [ByteArray.toList_eq, ByteArray.toList_eq] at e; exact bytes_ext e)
  simpa using h2

def prOf (x : RTide) : Int × Int := (x.f0, x.f1)
theorem sep58 : sepOk 58 := by unfold sepOk; decide
theorem wd_pr (x : RTide) : (wdB x).data.toList = prL 58 (prOf x) := by simp [wdB, prL, dB, prOf, ByteArray.data_append]
theorem wd_mk (x : RTide) : mkB (prL 58 (prOf x)) = wdB x := bytes_ext (by rw [wd_pr]; simp [mkB])
theorem join_joinL : ∀ L : List (List UInt8), Lib.join L [32] = joinL 32 L
  | [] => rfl
  | [x] => by rw [Lib.join_one]; rfl
  | x :: y :: r => by
    have ih := join_joinL (y :: r)
    rw [Lib.join_cons] at ih ⊢
    show _ = x ++ 32 :: joinL 32 (y :: r)
    rw [← ih]
    simp [Lib.joinTail]
theorem range_map {xs : List RTide} {α : Type} (f : RTide → α) : (List.range xs.length).map (fun j => f (xs.getD j zTide)) = xs.map f := by
  apply List.ext_getElem (by simp)
  intro j h1 h2
  have hj : j < xs.length := by simpa using h2
  simp [hj]
theorem tx_prs (xs : List RTide) : (txN xs xs.length).data.toList = prsL 58 (xs.map prOf) := by
  rw [← join_tx, range_map (fun x => (wdB x).data.toList), join_joinL]
  unfold prsL
  rw [List.map_map]
  congr 1
  apply List.map_congr_left
  intro x _
  exact wd_pr x
theorem dec_ofI {n : Int} (h : -1000000 ≤ n ∧ n ≤ 1000000) : DecOf (Lib.itoa n) n := by
  refine ⟨rfl, ?_⟩
  rw [strip_itoa]
  have := dec_len 9 n.natAbs (by omega)
  omega
noncomputable def numR (l : List UInt8) : Option Int := (dec_res l).choose
theorem numR_iff (l : List UInt8) : ∀ n, numR l = some n ↔ DecOf l n := (dec_res l).choose_spec
noncomputable def numV (l : List UInt8) : Int := (numR l).getD 0
theorem numV_of {l : List UInt8} {n : Int} (h : DecOf l n) : numV l = n := by unfold numV; rw [(numR_iff l n).2 h]; rfl
noncomputable def rp (w : ByteArray) : RTide := ⟨numV (Lib.cut w.data.toList [58]).1, numV (Lib.cut w.data.toList [58]).2.1⟩
theorem rp_of {w : ByteArray} {x : RTide} (h : IsPr 58 w.data.toList (prOf x)) : rp w = x := by
  obtain ⟨u, v, h1, h2, h3⟩ := h
  obtain ⟨e, n1, _⟩ := (split_two 58 _ u v).1 h1
  have hc := cut_app 58 u v (fun c hc e2 => n1 c hc (by rw [e2]))
  unfold rp
  rw [e, hc, numV_of h2, numV_of h3]
  rfl
theorem dk_dec {n : Nat} {xs : List RTide} (h : TdOk n xs) (hl : xs.length = n) : ∀ x ∈ xs, DecOf (Lib.itoa (prOf x).1) (prOf x).1 ∧ DecOf (Lib.itoa (prOf x).2) (prOf x).2 := by
  intro x hx
  obtain ⟨j, hj, rfl⟩ := List.getElem_of_mem hx
  have := td_el h (show j < n by omega)
  unfold tdO at this
  rw [getDTide hj] at this
  exact ⟨dec_ofI (show -1000000 ≤ xs[j].f0 ∧ xs[j].f0 ≤ 1000000 by omega), dec_ofI (show -1000000 ≤ xs[j].f1 ∧ xs[j].f1 ≤ 1000000 by omega)⟩
theorem dk_ne {n : Nat} {xs : List RTide} (h : TdOk n xs) (hl : xs.length = n) : xs ≠ [] := fun e => by rw [e] at hl; have := h.2.1; simp at hl; omega
theorem wd_ne (x : RTide) : wdB x ≠ ⟨#[]⟩ := fun e => by
  have h := congrArg (fun b : ByteArray => b.data.toList.length) e
  simp [wdB, ByteArray.data_append] at h
theorem parts_of {s : ByteArray} {xs : List RTide} (h : TdOk xs.length xs) (e : s = txN xs xs.length) : parts s 32 = xs.map wdB := by
  rw [parts_split, e, tx_prs, prs_split sep58 (by simpa using dk_ne h rfl), List.map_map, List.map_map]
  apply List.map_congr_left
  intro x _
  exact wd_mk x
theorem words_of {s : ByteArray} {xs : List RTide} (h : TdOk xs.length xs) (e : s = txN xs xs.length) : wordsOf s = xs.map wdB := by
  rw [words_filter, parts_of h e, List.filter_eq_self]
  intro y hy
  obtain ⟨x, _, rfl⟩ := List.mem_map.1 hy
  simpa using wd_ne x
theorem wd_is {x : RTide} (h : DecOf (Lib.itoa (prOf x).1) (prOf x).1 ∧ DecOf (Lib.itoa (prOf x).2) (prOf x).2) : IsPr 58 (wdB x).data.toList (prOf x) := by
  rw [wd_pr]; exact isPr_of sep58 h.1 h.2
theorem rp_map {xs : List RTide} (h : TdOk xs.length xs) : (xs.map wdB).map rp = xs := by
  rw [List.map_map]
  conv => rhs; rw [← List.map_id xs]
  apply List.map_congr_left
  intro x hx
  exact rp_of (wd_is (dk_dec h rfl x hx))
open Classical in
/-- what is read out of a text -/
noncomputable def rdRes (s : ByteArray) : Option (List RTide) := if TdOk ((wordsOf s).map rp).length ((wordsOf s).map rp) ∧ txN ((wordsOf s).map rp) ((wordsOf s).map rp).length = s then some ((wordsOf s).map rp) else none
theorem rd_iff (s : ByteArray) (xs : List RTide) : rdRes s = some xs ↔ TdOk xs.length xs ∧ s = txN xs xs.length := by
  constructor
  · intro h
    unfold rdRes at h
    split at h
    · rename_i hc
      injection h with h
      rw [← h]
      exact ⟨hc.1, hc.2.symm⟩
    · cases h
  · rintro ⟨h1, h2⟩
    have e : (wordsOf s).map rp = xs := by rw [words_of h1 h2, rp_map h1]
    unfold rdRes
    rw [e, if_pos ⟨h1, h2.symm⟩]
theorem filt_len : ∀ L : List (List UInt8), (L.filter fun x => decide (x ≠ [])).length ≤ (joinL 32 L).length
  | [] => Nat.le_refl _
  | [x] => by
    show _ ≤ x.length
    cases x <;> simp
  | x :: y :: r => by
    have ih := filt_len (y :: r)
    show _ ≤ (x ++ 32 :: joinL 32 (y :: r)).length
    rw [List.filter_cons, List.length_append, List.length_cons]
    split
    · rename_i hx
      have hx2 : x ≠ [] := by simpa using hx
      have : 0 < x.length := List.length_pos_iff.2 hx2
      rw [List.length_cons]
      omega
    · omega
theorem words_le (s : ByteArray) : (wordsOf s).length ≤ s.size := by
  rw [words_filter, parts_split, List.filter_map, List.length_map]
  have h := filt_len (splitL 32 s.data.toList)
  have e := join_split 32 s.data.toList
  rw [show (32 : UInt8).toNat = 32 from rfl] at e
  rw [e] at h
  have e2 : (splitL 32 s.data.toList).filter ((fun y => decide (y ≠ (⟨#[]⟩ : ByteArray))) ∘ mkB) = (splitL 32 s.data.toList).filter fun x => decide (x ≠ []) := by
    apply List.filter_congr
    intro x _
    show decide (mkB x ≠ ⟨#[]⟩) = decide (x ≠ [])
    refine decide_eq_decide.2 (not_congr ⟨fun h => ?_, fun h => by rw [h]; rfl⟩)
    have := congrArg (fun b : ByteArray => b.data.toList) h
    simpa [mkB] using this
  rw [e2]
  exact h
theorem parts_le {s : ByteArray} (h : ∀ j, j < (parts s 32).length → (parts s 32).getD j ⟨#[]⟩ ≠ ⟨#[]⟩) : (parts s 32).length ≤ s.size := by
  have e : wordsOf s = parts s 32 := by
    rw [words_filter, List.filter_eq_self]
    intro y hy
    obtain ⟨j, hj, rfl⟩ := List.getElem_of_mem hy
    have := h j hj
    rw [List.getD_eq_getElem?_getD, List.getElem?_eq_getElem hj] at this
    simpa using this
  rw [← e]
  exact words_le s
/-- each part is that of two numbers -/
def AllPr (P : List ByteArray) (k : Nat) : Prop := ∀ j, j < k → IsPr 58 (P.getD j ⟨#[]⟩).data.toList (prOf (rp (P.getD j ⟨#[]⟩)))
theorem pr_ne {p : ByteArray} {x : Int × Int} (h : IsPr 58 p.data.toList x) : p ≠ ⟨#[]⟩ := fun e => by
  have := h.eq
  rw [e] at this
  simp [prL] at this
theorem rd_yes {s : ByteArray} (h : AllPr (parts s 32) (parts s 32).length) (hk : TdOk (parts s 32).length ((parts s 32).map rp)) : rdRes s = some ((parts s 32).map rp) := by
  have hl : ((parts s 32).map rp).length = (parts s 32).length := by simp
  refine (rd_iff _ _).2 ⟨by rw [hl]; exact hk, bytes_ext ?_⟩
  rw [tx_prs]
  have hp := parts_split s 32
  refine prs_back (by rw [List.length_map, List.length_map, hp, List.length_map]) (fun j h1 h2 => ?_)
  have hj : j < (parts s 32).length := by rw [hp, List.length_map]; exact h1
  have h3 := h j hj
  have e1 : (parts s 32).getD j ⟨#[]⟩ = mkB (splitL 32 s.data.toList)[j] := by
    rw [List.getD_eq_getElem?_getD, List.getElem?_eq_getElem hj]
    simp [hp]
  rw [e1] at h3
  simp only [List.getElem_map]
  have e2 : (parts s 32)[j] = mkB (splitL 32 s.data.toList)[j] := by simp [hp]
  rw [e2]
  simpa [mkB] using h3
theorem rd_no {s : ByteArray} (h : ¬ TdOk (parts s 32).length ((parts s 32).map rp)) : rdRes s = none := by
  cases hr : rdRes s with
  | none => rfl
  | some xs =>
    obtain ⟨h1, h2⟩ := (rd_iff _ _).1 hr
    rw [parts_of h1 h2, rp_map h1, List.length_map] at h
    exact absurd h1 h
theorem rd_bad {s : ByteArray} {j : Nat} (hj : j < (parts s 32).length) (h : ¬ IsPr 58 ((parts s 32).getD j ⟨#[]⟩).data.toList (prOf (rp ((parts s 32).getD j ⟨#[]⟩)))) : rdRes s = none := by
  cases hr : rdRes s with
  | none => rfl
  | some xs =>
    obtain ⟨h1, h2⟩ := (rd_iff _ _).1 hr
    have e := parts_of h1 h2
    rw [e, List.length_map] at hj
    have e3 : (parts s 32).getD j ⟨#[]⟩ = wdB xs[j] := by rw [e]; simp [List.getD_eq_getElem?_getD, hj]
    rw [e3] at h
    have hi := wd_is (dk_dec h1 rfl xs[j] (List.getElem_mem _))
    rw [rp_of hi] at h
    exact absurd hi h

end Go.Proofs.YticbnahndidplaaDoor
