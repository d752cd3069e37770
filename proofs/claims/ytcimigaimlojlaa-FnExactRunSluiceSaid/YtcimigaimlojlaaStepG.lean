/- Sluices: an hour, of the model, told in one. -/
import Derived.Test.YtcimigaimlojlaaStepS
namespace Go.Proofs.Ytcimigaimlojlaa
open Go.RowKit

theorem stS_t (wd sl i o ord : Int) (g : RGate) (w : World) (hs : slOk wd sl) (hg : gtOk g.f1 g.f2) (hi : slv i) (ho : slv o) (hord : 0 ≤ ord ∧ ord ≤ 2) (r : RGate) (hr : r = stG wd sl ord i o g) (c : Int) (hc : c = stC wd sl ord i o g) :
    Calls Try.prog 48 #[.agg #[.int .i64 wd, .int .i64 sl], .agg #[.bool g.f0, .int .i64 g.f1, .int .i64 g.f2], .int .i64 ord, .int .i64 i, .int .i64 o] w fun e w' => e = .returned (.tuple #[.agg #[.bool r.f0, .int .i64 r.f1, .int .i64 r.f2], .int .i64 c]) ∧ Below w.heap.size w w' := by
  subst hr hc
  obtain ⟨g0, g1, g2⟩ := g
  by_cases hf : ord = 1 ∧ i ≤ o
  · obtain ⟨rfl, hio⟩ := hf
    have e : stC wd sl 1 i o ⟨g0, g1, g2⟩ = 10 := by unfold stC; rw [if_pos ⟨rfl, hio⟩]
    have e2 : stG wd sl 1 i o ⟨g0, g1, g2⟩ = zGate := by unfold stG; rw [e]; rfl
    rw [e, e2]
    exact stS_flood wd sl g1 g2 i o g0 w hio
  · have key : ∀ (op : Bool) (p m : Int), nxN wd sl ord i o ⟨g0, g1, g2⟩ = ⟨op, p, m⟩ → ∀ v, v = decide (gtOk p m) → stG wd sl ord i o ⟨g0, g1, g2⟩ = ⟨if v = true then op else false, if v = true then p else 0, if v = true then m else 0⟩ ∧ stC wd sl ord i o ⟨g0, g1, g2⟩ = if v = true then 0 else 5 := by
      intro op p m hn v hv
      have e : stC wd sl ord i o ⟨g0, g1, g2⟩ = if v = true then 0 else 5 := by unfold stC; rw [if_neg hf, hn, hv]; simp
      refine ⟨?_, e⟩
      unfold stG
      rw [e, hn]
      cases v
      · rfl
      · rfl
    by_cases h2 : ord = 2
    · have en : opN ord i o g0 = false := by unfold opN; rw [if_pos (.inl h2)]
      cases g0
      · obtain ⟨k1, k2⟩ := key false g1 g2 (by unfold nxN; simp [en]) _ rfl
        rw [k1, k2]; exact stS_c2_f wd sl g1 g2 i o ord w hs hg hi ho h2 _ rfl _ rfl
      · obtain ⟨k1, k2⟩ := key false g1 (g2 + 1) (by unfold nxN; simp [en]) _ rfl
        rw [k1, k2]; exact stS_c2_t wd sl g1 g2 i o ord w hs hg hi ho h2 _ rfl _ rfl
    · by_cases h3 : i ≤ o
      · have h0 : ord = 0 := by omega
        have en : opN ord i o g0 = false := by unfold opN; rw [if_pos (.inr h3)]
        cases g0
        · obtain ⟨k1, k2⟩ := key false g1 g2 (by unfold nxN; simp [en]) _ rfl
          rw [k1, k2]; exact stS_c0_f wd sl g1 g2 i o ord w hs hg hi ho h0 h3 _ rfl _ rfl
        · obtain ⟨k1, k2⟩ := key false g1 (g2 + 1) (by unfold nxN; simp [en]) _ rfl
          rw [k1, k2]; exact stS_c0_t wd sl g1 g2 i o ord w hs hg hi ho h0 h3 _ rfl _ rfl
      · by_cases h1 : ord = 1
        · have en : opN ord i o g0 = true := by unfold opN; rw [if_neg (by omega), if_pos h1]
          cases g0
          · obtain ⟨k1, k2⟩ := key true (g1 + flN wd sl i o) (g2 + 1) (by unfold nxN; simp [en]) _ rfl
            rw [k1, k2]; exact stS_o_f wd sl g1 g2 i o ord w hs hg hi ho h1 (by omega) _ rfl _ rfl
          · obtain ⟨k1, k2⟩ := key true (g1 + flN wd sl i o) g2 (by unfold nxN; simp [en]) _ rfl
            rw [k1, k2]; exact stS_o_t wd sl g1 g2 i o ord w hs hg hi ho h1 (by omega) _ rfl _ rfl
        · have en : opN ord i o g0 = g0 := by unfold opN; rw [if_neg (by omega), if_neg h1]
          have h0 : ord = 0 := by omega
          cases g0
          · obtain ⟨k1, k2⟩ := key false g1 g2 (by unfold nxN; simp [en]) _ rfl
            rw [k1, k2]; exact stS_k_f wd sl g1 g2 i o ord w hs hg hi ho h0 (by omega) _ rfl _ rfl
          · obtain ⟨k1, k2⟩ := key true (g1 + flN wd sl i o) g2 (by unfold nxN; simp [en]) _ rfl
            rw [k1, k2]; exact stS_k_t wd sl g1 g2 i o ord w hs hg hi ho h0 (by omega) _ rfl _ rfl

end Go.Proofs.Ytcimigaimlojlaa
