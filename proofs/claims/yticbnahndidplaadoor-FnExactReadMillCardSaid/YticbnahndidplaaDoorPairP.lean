/- The text of pairs of numbers ('a:b a:b', 'a@b a@b'), plain mathematics: for the readings of curves, dikes and the like. No function of the program in it. -/
import Derived.Test.YticbnahndidplaaDoorSplitP
import Derived.Test.YticbnahndidplaaDoorNum
namespace Go.Proofs.YticbnahndidplaaDoor
open Go.RowKit

/-- a sign that stands in no number's text and is no space -/
def sepOk (b : UInt8) : Prop := b.toNat ≠ 45 ∧ ¬ (48 ≤ b.toNat ∧ b.toNat ≤ 57) ∧ b.toNat ≠ 32
theorem itoa_sign (n : Int) : ∀ c ∈ Lib.itoa n, c.toNat = 45 ∨ dig c := by
  intro c hc
  unfold Lib.itoa at hc
  split at hc
  · rcases List.mem_cons.1 hc with h | h
    · exact .inl (by rw [h]; rfl)
    · exact .inr (dec_dig _ c h)
  · exact .inr (dec_dig _ c hc)
theorem itoa_no {b : UInt8} (hb : sepOk b) (n : Int) : ∀ c ∈ Lib.itoa n, c.toNat ≠ b.toNat := by
  intro c hc e
  obtain ⟨h1, h2, _⟩ := hb
  rcases itoa_sign n c hc with h | h
  · omega
  · unfold dig at h; omega
theorem itoa_no32 (n : Int) : ∀ c ∈ Lib.itoa n, c.toNat ≠ 32 := by
  intro c hc e
  rcases itoa_sign n c hc with h | h
  · omega
  · unfold dig at h; omega
/-- the text of two numbers, and of a row of such -/
def prL (b : UInt8) (x : Int × Int) : List UInt8 := Lib.itoa x.1 ++ b :: Lib.itoa x.2
def prsL (b : UInt8) (ps : List (Int × Int)) : List UInt8 := joinL 32 (ps.map (prL b))
theorem pr_split {b : UInt8} (hb : sepOk b) (x : Int × Int) : splitL b.toNat (prL b x) = [Lib.itoa x.1, Lib.itoa x.2] :=
  (split_two b _ _ _).2 ⟨rfl, itoa_no hb x.1, itoa_no hb x.2⟩
theorem pr_no32 {b : UInt8} (hb : sepOk b) (x : Int × Int) : ∀ c ∈ prL b x, c.toNat ≠ 32 := by
  intro c hc
  rcases List.mem_append.1 hc with h | h
  · exact itoa_no32 _ c h
  · rcases List.mem_cons.1 h with h | h
    · rw [h]; exact hb.2.2
    · exact itoa_no32 _ c h
theorem prs_split {b : UInt8} (hb : sepOk b) {ps : List (Int × Int)} (h : ps ≠ []) : splitL 32 (prsL b ps) = ps.map (prL b) := by
  refine split_join 32 (ps.map (prL b)) (by simpa using h) ?_
  intro w hw c hc
  obtain ⟨x, _, rfl⟩ := List.mem_map.1 hw
  exact pr_no32 hb x c hc
/-- a part that reads as two numbers -/
def IsPr (b : UInt8) (l : List UInt8) (x : Int × Int) : Prop := ∃ u v, splitL b.toNat l = [u, v] ∧ DecOf u x.1 ∧ DecOf v x.2
theorem IsPr.eq {b : UInt8} {l : List UInt8} {x : Int × Int} (h : IsPr b l x) : l = prL b x := by
  obtain ⟨u, v, h1, h2, h3⟩ := h
  have e := ((split_two b l u v).1 h1).1
  rw [e, h2.1, h3.1]
  rfl
theorem IsPr.uniq {b : UInt8} {l : List UInt8} {x y : Int × Int} (h : IsPr b l x) (k : IsPr b l y) : x = y := by
  obtain ⟨u, v, h1, h2, h3⟩ := h
  obtain ⟨u', v', k1, k2, k3⟩ := k
  rw [h1] at k1
  injection k1 with e1 e2
  injection e2 with e2 _
  subst e1
  subst e2
  exact Prod.ext (h2.inj k2) (h3.inj k3)
theorem isPr_of {b : UInt8} (hb : sepOk b) {x : Int × Int} (h1 : DecOf (Lib.itoa x.1) x.1) (h2 : DecOf (Lib.itoa x.2) x.2) : IsPr b (prL b x) x := ⟨_, _, pr_split hb x, h1, h2⟩
/-- a text each of whose parts reads as two numbers is the text of those -/
theorem prs_back {b : UInt8} {s : List UInt8} {ps : List (Int × Int)} (h : (splitL 32 s).length = ps.length) (hx : ∀ j (h1 : j < (splitL 32 s).length) (h2 : j < ps.length), IsPr b (splitL 32 s)[j] ps[j]) : s = prsL b ps := by
  have e : splitL 32 s = ps.map (prL b) := List.ext_getElem (by simpa using h) (fun j h1 h2 => by rw [List.getElem_map]; exact (hx j h1 (by simpa using h2)).eq)
  have := join_split 32 s
  rw [show (32 : UInt8).toNat = 32 from rfl, e] at this
  exact this.symm
theorem prs_inj {b : UInt8} (hb : sepOk b) {ps qs : List (Int × Int)} (h1 : ps ≠ []) (h2 : qs ≠ []) (hp : ∀ x ∈ ps, DecOf (Lib.itoa x.1) x.1 ∧ DecOf (Lib.itoa x.2) x.2) (hq : ∀ x ∈ qs, DecOf (Lib.itoa x.1) x.1 ∧ DecOf (Lib.itoa x.2) x.2) (e : prsL b ps = prsL b qs) : ps = qs := by
  have e1 := prs_split hb h1
  rw [e, prs_split hb h2] at e1
  have hl : qs.length = ps.length := by simpa using congrArg List.length e1
  refine List.ext_getElem hl.symm (fun j j1 j2 => ?_)
  have e2 : prL b qs[j] = prL b ps[j] := by
    have := List.getElem_of_eq e1 (i := j) (by simpa using j2)
    simpa using this
  have a := hp ps[j] (List.getElem_mem _)
  have c := hq qs[j] (List.getElem_mem _)
  have p1 := isPr_of hb a.1 a.2
  have p2 := isPr_of hb c.1 c.2
  rw [e2] at p2
  exact p1.uniq p2

end Go.Proofs.YticbnahndidplaaDoor
