/- What the law on storage says of the plain functions; no function of the program in it. -/
import Derived.Test.YthjcpgabdlfojaaDoorCVolumeAt
import Derived.Test.YthjcpgabdlfojaaDoorCSpaceTo
import Derived.Test.YthjcpgabdlfojaaDoorCAreaAt
import Derived.Test.YthjcpgabdlfojaaDoorCLevelAt
import Derived.Test.YthjcpgabdlfojaaDoorCAddWater
namespace Go.Proofs.YthjcpgabdlfojaaDoor
open Go.RowKit

theorem least_enough {ls vs : List Int} (h : CurveOk ls vs) (v : Int) : ∀ m, m ≤ span ls → enough ls vs v m → ∃ i, i ≤ m ∧ (∀ k, k < i → ¬ enough ls vs v k) ∧ enough ls vs v i := by
  intro m
  induction m with
  | zero => intro _ he; exact ⟨0, Nat.le_refl _, fun k hk => by omega, he⟩
  | succ m ih =>
    intro hm he
    by_cases hp : enough ls vs v m
    · obtain ⟨i, h1, h2, h3⟩ := ih (by omega) hp
      exact ⟨i, by omega, h2, h3⟩
    · exact ⟨m + 1, Nat.le_refl _, fun k hk hk2 => hp (enough_mono h v k m (by omega) (by omega) hk2), he⟩
theorem lvAt_spec {ls vs : List Int} (h : CurveOk ls vs) {v : Int} (hv : v ≤ vs.getD (vs.length - 1) 0) : ∃ i, i ≤ span ls ∧ lvAt ls vs v = ls.getD 0 0 + (i : Int) ∧ v ≤ vAt ls vs (ls.getD 0 0 + (i : Int)) ∧ ∀ k, k < i → vAt ls vs (ls.getD 0 0 + (k : Int)) < v := by
  obtain ⟨i, h1, h2, h3⟩ := least_enough h v (span ls) (Nat.le_refl _) (enough_last h hv)
  refine ⟨i, h1, lvAt_eq h h1 h2 (fun _ => h3), h3, fun k hk => ?_⟩
  have := h2 k hk
  unfold enough at this
  omega
theorem va_on {ls vs : List Int} {y : Int} (h : CurveOk ls vs) (hy : onC ls y) : r0_VolumeAt ls vs y = vAt ls vs y ∧ r1_VolumeAt ls vs y = 0 := ⟨if_pos ⟨h, hy⟩, ccode_ok h hy⟩
theorem ccode_0 {ls vs : List Int} {p : Prop} [Decidable p] (h : ccode ls vs p = 0) : CurveOk ls vs ∧ p := by
  by_cases hc : CurveOk ls vs
  · by_cases hp : p
    · exact ⟨hc, hp⟩
    · rw [ccode_no hc hp] at h; cases h
  · rw [ccode_bad hc] at h; cases h
theorem sto_level {ls vs : List Int} {v : Int} (h : r1_LevelAt ls vs v = 0) : 0 < ls.length ∧ -2000 ≤ r0_LevelAt ls vs v ∧ r0_LevelAt ls vs v ≤ 2000 ∧ r1_VolumeAt ls vs (r0_LevelAt ls vs v) = 0 ∧ v ≤ r0_VolumeAt ls vs (r0_LevelAt ls vs v) ∧
    (¬ r0_LevelAt ls vs v = ls.getD 0 0 → r1_VolumeAt ls vs (r0_LevelAt ls vs v - 1) = 0 ∧ r0_VolumeAt ls vs (r0_LevelAt ls vs v - 1) < v) := by
  have key : CurveOk ls vs ∧ volOk v ∧ v ≤ vs.getD (vs.length - 1) 0 := by
    by_cases hc : CurveOk ls vs ∧ volOk v
    · by_cases hl : v ≤ vs.getD (vs.length - 1) 0
      · exact ⟨hc.1, hc.2, hl⟩
      · have := (la_st hc hl).2
        rw [this] at h
        cases h
    · rw [(la_bad hc).2] at h
      have := ccode_0 h
      exact absurd this hc
  obtain ⟨hc, hv, hl⟩ := key
  obtain ⟨i, h1, h2, h3, h4⟩ := lvAt_spec hc hl
  have e := (la_ok ⟨hc, hv⟩ hl).1
  have ho := onC_at hc h1
  have hR := hc.2.2.1
  have hn := hc.1
  have b0 := hR.bd (j := 0) (by omega)
  have b1 := hR.bd (j := ls.length - 1) (by omega)
  rw [e, h2]
  obtain ⟨v0, v1⟩ := va_on hc ho
  refine ⟨by omega, by have := ho.1; omega, by have := ho.2; omega, v1, by rw [v0]; exact h3, fun hne => ?_⟩
  have hi : 1 ≤ i := by
    rcases Nat.eq_zero_or_pos i with hz | hz
    · exfalso; apply hne; rw [hz]; simp
    · exact hz
  have e2 : ls.getD 0 0 + (i : Int) - 1 = ls.getD 0 0 + ((i - 1 : Nat) : Int) := by omega
  rw [e2]
  obtain ⟨u0, u1⟩ := va_on hc (onC_at hc (show i - 1 ≤ span ls by omega))
  exact ⟨u1, by rw [u0]; exact h4 (i - 1) (by omega)⟩
theorem sto_add {ls vs : List Int} {a m : Int} (h : r1_AddWater ls vs a m = 0) : -2000 ≤ r0_AddWater ls vs a m ∧ r0_AddWater ls vs a m ≤ 2000 ∧ r1_VolumeAt ls vs a = 0 ∧ r1_VolumeAt ls vs (r0_AddWater ls vs a m) = 0 ∧ r0_VolumeAt ls vs a + m ≤ r0_VolumeAt ls vs (r0_AddWater ls vs a m) ∧
    (0 ≤ r0_VolumeAt ls vs a ∧ r0_VolumeAt ls vs a ≤ 1000000000) ∧ (-1000000000 ≤ m ∧ m ≤ 1000000000) := by
  have key : (CurveOk ls vs ∧ onC ls a ∧ wOk m) ∧ 0 ≤ vAt ls vs a + m ∧ vAt ls vs a + m ≤ vs.getD (vs.length - 1) 0 := by
    unfold r1_AddWater at h
    by_cases hc : CurveOk ls vs ∧ onC ls a ∧ wOk m
    · rw [if_pos hc] at h
      by_cases h1 : vAt ls vs a + m < 0
      · rw [if_pos h1] at h; cases h
      · rw [if_neg h1] at h
        by_cases h2 : vAt ls vs a + m ≤ vs.getD (vs.length - 1) 0
        · exact ⟨hc, by omega, h2⟩
        · rw [if_neg h2] at h; cases h
    · rw [if_neg hc] at h
      have := ccode_0 h
      exact absurd this hc
  obtain ⟨⟨hc, ha, hm⟩, h0, hl⟩ := key
  have e : r0_AddWater ls vs a m = lvAt ls vs (vAt ls vs a + m) := if_pos ⟨⟨hc, ha, hm⟩, h0, hl⟩
  obtain ⟨i, h1, h2, h3, h4⟩ := lvAt_spec hc hl
  have ho := onC_at hc h1
  have hR := hc.2.2.1
  have hn := hc.1
  have b0 := hR.bd (j := 0) (by omega)
  have b1 := hR.bd (j := ls.length - 1) (by omega)
  have bd := vAt_bd hc ha
  rw [e, h2]
  obtain ⟨v0, v1⟩ := va_on hc ho
  obtain ⟨u0, u1⟩ := va_on hc ha
  rw [v0, u0]
  exact ⟨by have := ho.1; omega, by have := ho.2; omega, u1, v1, h3, bd, hm⟩
theorem sto_area {ls vs : List Int} {y : Int} (h : r2_AreaAt ls vs y = 0) : 1 ≤ r0_AreaAt ls vs y := by
  obtain ⟨hc, hy⟩ := ccode_0 h
  have hk := kn_lt (ls := ls) (y := y) hc.1.1
  have d0 := hc.2.2.1.lt (show kn ls y < kn ls y + 1 by omega) hk
  have d1 := hc.2.2.2.1.lt (show kn ls y < kn ls y + 1 by omega) (by have := hc.2.1; omega)
  rw [show r0_AreaAt ls vs y = _ from if_pos ⟨hc, hy⟩]
  have p0 : 1 ≤ ls.getD (kn ls y + 1) 0 - ls.getD (kn ls y) 0 := by omega
  have p1 : 1 ≤ vs.getD (kn ls y + 1) 0 - vs.getD (kn ls y) 0 := by omega
  generalize vs.getD (kn ls y + 1) 0 - vs.getD (kn ls y) 0 = dv at p1 ⊢
  generalize ls.getD (kn ls y + 1) 0 - ls.getD (kn ls y) 0 = dl at p0 ⊢
  have g1 := fgcd_pos dv dl p0
  have g2 : (fgcd dv dl : Int) ≤ dv := by
    have : fgcd dv dl ≤ dv.natAbs := Nat.gcd_le_left _ (by omega)
    omega
  rw [← fnum_pos dv dl (by omega)]
  have := Int.ediv_le_ediv (by omega : (0 : Int) < (fgcd dv dl : Int)) g2
  rw [Int.ediv_self (by omega)] at this
  exact this

end Go.Proofs.YthjcpgabdlfojaaDoor
