/- The text of the water of a day, plain: its parts, and that it has one reading. -/
import Derived.Test.YtfpfmfhhcgafcaaDoorPairP
import Derived.Test.YtfpfmfhhcgafcaaDoorSplitP
import Derived.Test.YtfpfmfhhcgafcaaDoorWords
import Derived.Test.YtfpfmfhhcgafcaaDoorWatP
import Derived.Test.YtfpfmfhhcgafcaaDoorWFnExactReadDecimal
import Derived.Lib.ItoaLen
namespace Go.Proofs.YtfpfmfhhcgafcaaDoor
open Go.RowKit

def kwW : Nat → List UInt8
  | 0 => [114, 97, 105, 110]
  | 1 => [115, 101, 101, 112]
  | 2 => [100, 114, 121]
  | 3 => [112, 117, 109, 112]
  | _ => [115, 108, 117, 105, 99, 101]
def ptsW (a b c d e : Int) : List (List UInt8) := [kwW 0, Lib.itoa a, kwW 1, Lib.itoa b, kwW 2, Lib.itoa c, kwW 3, Lib.itoa d, kwW 4, Lib.itoa e]
def wL (a b c d e : Int) : List UInt8 := joinL 32 (ptsW a b c d e)
def In9 (n : Int) : Prop := 0 ≤ n ∧ n ≤ 10000000
theorem dec_in9 {n : Int} (h : In9 n) : DecOf (Lib.itoa n) n := by
  refine ⟨rfl, ?_⟩
  rw [strip_itoa]
  obtain ⟨h1, h2⟩ := h
  have : ∀ k u, u < 10 ^ (k + 1) → (Lib.decDigits u).length ≤ k + 1 := by
    intro k
    induction k with
    | zero => intro u hu; rw [Lib.decDigits, dif_pos (by omega)]; simp
    | succ k ih =>
      intro u hu
      rw [Lib.decDigits]
      split
      · simp
      · rw [List.length_append]
        have := ih (u / 10) (by rw [Nat.pow_succ] at hu; omega)
        simp
        omega
  have := this 9 n.natAbs (by omega)
  omega
theorem dec_nilW (n : Int) : ¬ DecOf [] n := fun h => by
  have e := h.1
  have h2 := congrArg strip e
  rw [strip_itoa, strip_nil] at h2
  exact dec_ne _ h2.symm
theorem itoa_neW {n : Int} (h : In9 n) : Lib.itoa n ≠ [] := fun e => dec_nilW n (by have := dec_in9 h; rwa [e] at this)
theorem wL_split (a b c d e : Int) : splitL 32 (wL a b c d e) = ptsW a b c d e := by
  unfold wL
  refine split_join 32 _ (by simp [ptsW]) ?_
  intro w hw x hx
  show x.toNat ≠ 32
  have h5 : w = kwW 0 ∨ w = Lib.itoa a ∨ w = kwW 1 ∨ w = Lib.itoa b ∨ w = kwW 2 ∨ w = Lib.itoa c ∨ w = kwW 3 ∨ w = Lib.itoa d ∨ w = kwW 4 ∨ w = Lib.itoa e := by simpa [ptsW] using hw
  have K : ∀ k, k < 5 → ∀ y ∈ kwW k, y.toNat ≠ 32 := by
    intro k hk
    match k, hk with
    | 0, _ => decide
    | 1, _ => decide
    | 2, _ => decide
    | 3, _ => decide
    | 4, _ => decide
  rcases h5 with rfl | rfl | rfl | rfl | rfl | rfl | rfl | rfl | rfl | rfl
  · exact K 0 (by omega) x hx
  · exact itoa_no32 _ x hx
  · exact K 1 (by omega) x hx
  · exact itoa_no32 _ x hx
  · exact K 2 (by omega) x hx
  · exact itoa_no32 _ x hx
  · exact K 3 (by omega) x hx
  · exact itoa_no32 _ x hx
  · exact K 4 (by omega) x hx
  · exact itoa_no32 _ x hx
theorem wL_of {s : ByteArray} {a b c d e : Int} (h : splitL 32 s.data.toList = ptsW a b c d e) : s.data.toList = wL a b c d e := by
  have := join_split 32 s.data.toList
  rw [show (32 : UInt8).toNat = 32 from rfl, h] at this
  exact this.symm
theorem ptsW_inj {a b c d e a' b' c' d' e' : Int} (h : waOk a b c d e) (k : waOk a' b' c' d' e') (he : ptsW a b c d e = ptsW a' b' c' d' e') : a = a' ∧ b = b' ∧ c = c' ∧ d = d' ∧ e = e' := by
  unfold ptsW at he
  simp only [List.cons.injEq, and_true, true_and] at he
  obtain ⟨h0, h1, h2, h3, h4⟩ := h
  obtain ⟨k0, k1, k2, k3, k4⟩ := k
  obtain ⟨e0, e1, e2, e3, e4⟩ := he
  have J : ∀ {x y : Int}, In9 x → In9 y → Lib.itoa x = Lib.itoa y → x = y := fun hx hy hh => DecOf.inj (dec_in9 hx) (by rw [hh]; exact dec_in9 hy)
  exact ⟨J h0 k0 e0, J h1 k1 e1, J h2 k2 e2, J h3 k3 e3, J h4 k4 e4⟩
theorem wr_res (s : List UInt8) : ∃ res : Option RWater, ∀ x : RWater, res = some x ↔ waR x ∧ s = wL x.f0 x.f1 x.f2 x.f3 x.f4 := by
  by_cases h : ∃ x : RWater, waR x ∧ s = wL x.f0 x.f1 x.f2 x.f3 x.f4
  · obtain ⟨x, hx, he⟩ := h
    refine ⟨some x, fun y => ⟨fun e => ?_, fun hm => ?_⟩⟩
    · injection e with e; subst e; exact ⟨hx, he⟩
    · have e2 := congrArg (splitL 32) (he.symm.trans hm.2)
      rw [wL_split, wL_split] at e2
      obtain ⟨h0, h1, h2, h3, h4⟩ := ptsW_inj hx hm.1 e2
      exact congrArg some (RWater.eq ⟨h0, h1, h2, h3, h4⟩)
  · exact ⟨none, fun y => ⟨fun e => by simp at e, fun hm => absurd ⟨y, hm⟩ h⟩⟩
theorem num_fun : ∃ f : List UInt8 → Option Int, ∀ l n, f l = some n ↔ DecOf l n := ⟨fun l => (dec_res l).choose, fun l => (dec_res l).choose_spec⟩
/-- what the model asks of the parts -/
def okW (f : List UInt8 → Option Int) (Q : List (List UInt8)) (k : Nat) : Prop := Q.getD (2 * k) [] = kwW k ∧ (f (Q.getD (2 * k + 1) [])).isSome = true
def vlW (f : List UInt8 → Option Int) (Q : List (List UInt8)) (k : Nat) : Int := (f (Q.getD (2 * k + 1) [])).getD 0
theorem okW_dec {f : List UInt8 → Option Int} (hf : ∀ l n, f l = some n ↔ DecOf l n) {Q : List (List UInt8)} {k : Nat} (h : okW f Q k) : Q.getD (2 * k + 1) [] = Lib.itoa (vlW f Q k) := by
  obtain ⟨n, hn⟩ := Option.isSome_iff_exists.1 h.2
  unfold vlW
  rw [hn]
  exact ((hf _ _).1 hn).1
theorem list10 {α : Type} {Q : List α} (h : Q.length = 10) (z : α) : Q = [Q.getD 0 z, Q.getD 1 z, Q.getD 2 z, Q.getD 3 z, Q.getD 4 z, Q.getD 5 z, Q.getD 6 z, Q.getD 7 z, Q.getD 8 z, Q.getD 9 z] := by
  match Q, h with
  | [a, b, c, d, e, f, g, i, j, k], _ => rfl
theorem wat_yes {f : List UInt8 → Option Int} (hf : ∀ l n, f l = some n ↔ DecOf l n) {s : ByteArray} {Q : List (List UInt8)} (hQ : Q = splitL 32 s.data.toList) (h10 : Q.length = 10) (h : ∀ k, k < 5 → okW f Q k) : s.data.toList = wL (vlW f Q 0) (vlW f Q 1) (vlW f Q 2) (vlW f Q 3) (vlW f Q 4) := by
  refine wL_of ?_
  rw [← hQ]
  have h0 := h 0 (by omega)
  have h1 := h 1 (by omega)
  have h2 := h 2 (by omega)
  have h3 := h 3 (by omega)
  have h4 := h 4 (by omega)
  have d0 := okW_dec hf h0
  have d1 := okW_dec hf h1
  have d2 := okW_dec hf h2
  have d3 := okW_dec hf h3
  have d4 := okW_dec hf h4
  refine (list10 h10 []).trans ?_
  unfold ptsW
  rw [← d0, ← d1, ← d2, ← d3, ← d4, ← h0.1, ← h1.1, ← h2.1, ← h3.1, ← h4.1]
theorem wat_parts {f : List UInt8 → Option Int} (hf : ∀ l n, f l = some n ↔ DecOf l n) {s : ByteArray} {x : RWater} (hx : waR x) (he : s.data.toList = wL x.f0 x.f1 x.f2 x.f3 x.f4) {Q : List (List UInt8)} (hQ : Q = splitL 32 s.data.toList) : Q.length = 10 ∧ (∀ k, k < 5 → okW f Q k) ∧ x = ⟨vlW f Q 0, vlW f Q 1, vlW f Q 2, vlW f Q 3, vlW f Q 4⟩ := by
  have e : Q = ptsW x.f0 x.f1 x.f2 x.f3 x.f4 := by rw [hQ, he, wL_split]
  subst e
  obtain ⟨h0, h1, h2, h3, h4⟩ := hx
  have v0 := (hf _ _).2 (dec_in9 h0)
  have v1 := (hf _ _).2 (dec_in9 h1)
  have v2 := (hf _ _).2 (dec_in9 h2)
  have v3 := (hf _ _).2 (dec_in9 h3)
  have v4 := (hf _ _).2 (dec_in9 h4)
  refine ⟨rfl, ?_, ?_⟩
  · intro k hk
    match k, hk with
    | 0, _ => exact ⟨rfl, by show (f (Lib.itoa x.f0)).isSome = true; rw [v0]; rfl⟩
    | 1, _ => exact ⟨rfl, by show (f (Lib.itoa x.f1)).isSome = true; rw [v1]; rfl⟩
    | 2, _ => exact ⟨rfl, by show (f (Lib.itoa x.f2)).isSome = true; rw [v2]; rfl⟩
    | 3, _ => exact ⟨rfl, by show (f (Lib.itoa x.f3)).isSome = true; rw [v3]; rfl⟩
    | 4, _ => exact ⟨rfl, by show (f (Lib.itoa x.f4)).isSome = true; rw [v4]; rfl⟩
  · refine RWater.eq ⟨?_, ?_, ?_, ?_, ?_⟩
    · show x.f0 = (f (Lib.itoa x.f0)).getD 0; rw [v0]; rfl
    · show x.f1 = (f (Lib.itoa x.f1)).getD 0; rw [v1]; rfl
    · show x.f2 = (f (Lib.itoa x.f2)).getD 0; rw [v2]; rfl
    · show x.f3 = (f (Lib.itoa x.f3)).getD 0; rw [v3]; rfl
    · show x.f4 = (f (Lib.itoa x.f4)).getD 0; rw [v4]; rfl
theorem mkB_neW {l : List UInt8} (h : l ≠ []) : mkB l ≠ ⟨#[]⟩ := fun e => h (by
  have := congrArg (fun p : ByteArray => p.data.toList) e
  simpa [mkB] using this)
theorem wat_words {s : ByteArray} {x : RWater} (hx : waR x) (he : s.data.toList = wL x.f0 x.f1 x.f2 x.f3 x.f4) : wordsOf s = (ptsW x.f0 x.f1 x.f2 x.f3 x.f4).map mkB := by
  obtain ⟨h0, h1, h2, h3, h4⟩ := hx
  rw [words_filter, parts_split, he, wL_split, List.filter_eq_self]
  intro y hy
  obtain ⟨l, hl, rfl⟩ := List.mem_map.1 hy
  refine decide_eq_true (mkB_neW ?_)
  have h5 : l = kwW 0 ∨ l = Lib.itoa x.f0 ∨ l = kwW 1 ∨ l = Lib.itoa x.f1 ∨ l = kwW 2 ∨ l = Lib.itoa x.f2 ∨ l = kwW 3 ∨ l = Lib.itoa x.f3 ∨ l = kwW 4 ∨ l = Lib.itoa x.f4 := by simpa [ptsW] using hl
  rcases h5 with rfl | rfl | rfl | rfl | rfl | rfl | rfl | rfl | rfl | rfl
  · decide
  · exact itoa_neW h0
  · decide
  · exact itoa_neW h1
  · decide
  · exact itoa_neW h2
  · decide
  · exact itoa_neW h3
  · decide
  · exact itoa_neW h4
theorem wat_nil {s : ByteArray} (e : s.data.toList = []) : (wordsOf s).length ≤ 1 := by
  rw [words_filter]
  refine Nat.le_trans (List.length_filter_le _ _) ?_
  rw [parts_split, e, List.length_map]
  exact Nat.le_refl 1
theorem parts_listW {s : ByteArray} {b : Nat} {P : List ByteArray} (h : parts s b = P) : splitL b s.data.toList = P.map (fun p : ByteArray => p.data.toList) := by
  rw [parts_split] at h
  have h2 := congrArg (List.map (fun p : ByteArray => p.data.toList)) h
  rw [List.map_map] at h2
  have e : (fun p : ByteArray => p.data.toList) ∘ mkB = id := by funext x; simp [mkB]
  rw [e, List.map_id] at h2
  exact h2
theorem psz {s : ByteArray} {b : Nat} {P : List ByteArray} (h : P = parts s b) : ∀ p ∈ P, p.size ≤ s.size := by
  intro p hm
  rw [h] at hm
  obtain ⟨x, hx, rfl⟩ := List.mem_map.1 hm
  have hb := cuts_bd s b _ 0 0 (Nat.le_refl _) (by omega) x hx
  unfold ext
  rw [ByteArray.size_extract]
  omega

end Go.Proofs.YtfpfmfhhcgafcaaDoor
