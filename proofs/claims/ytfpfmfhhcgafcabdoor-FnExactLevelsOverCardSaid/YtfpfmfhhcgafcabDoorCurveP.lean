/- Storage curves, plain: valid ones, the knot before a level, the volume at a level, the least level with a volume; no function of the program in it. -/
import Derived.Test.YtfpfmfhhcgafcabDoorRise
namespace Go.Proofs.YtfpfmfhhcgafcabDoor
open Go.RowKit

/-- how many of the first n numbers lack a property -/
def cntNo (P : Nat → Prop) [DecidablePred P] : Nat → Nat
  | 0 => 0
  | n + 1 => cntNo P n + if P n then 0 else 1
theorem cntNo_le (P : Nat → Prop) [DecidablePred P] (n : Nat) : cntNo P n ≤ n := by
  induction n with
  | zero => exact Nat.le_refl _
  | succ n ih => rw [cntNo]; split <;> omega
theorem cntNo_lo {P : Nat → Prop} [DecidablePred P] {i : Nat} (h : ∀ k, k < i → ¬ P k) : cntNo P i = i := by
  induction i with
  | zero => rfl
  | succ i ih => rw [cntNo, ih (fun k hk => h k (by omega)), if_neg (h i (by omega))]
theorem cntNo_hi {P : Nat → Prop} [DecidablePred P] {i : Nat} (n : Nat) (h : ∀ k, i ≤ k → k < i + n → P k) : cntNo P (i + n) = cntNo P i := by
  induction n with
  | zero => rfl
  | succ n ih =>
    show cntNo P (i + n) + (if P (i + n) then 0 else 1) = _
    rw [ih (fun k h1 h2 => h k h1 (by omega)), if_pos (h _ (by omega) (by omega))]
    rfl
theorem cntNo_eq {P : Nat → Prop} [DecidablePred P] {i n : Nat} (hi : i ≤ n) (hm : ∀ a b, a ≤ b → b < n → P a → P b) (h1 : ∀ k, k < i → ¬ P k) (h2 : i < n → P i) : cntNo P n = i := by
  by_cases h : i < n
  · have := cntNo_hi (P := P) (i := i) (n - i) (fun k hk hk2 => hm i k hk (by omega) (h2 h))
    rw [show i + (n - i) = n by omega] at this
    rw [this]
    exact cntNo_lo h1
  · rw [show n = i by omega]
    exact cntNo_lo h1

def CurveOk (ls vs : List Int) : Prop := (2 ≤ ls.length ∧ ls.length ≤ 12) ∧ vs.length = ls.length ∧ Ris (-2000) 2000 ls ∧ Ris 0 1000000000 vs ∧ vs.getD 0 0 = 0
instance (ls vs : List Int) : Decidable (CurveOk ls vs) := by unfold CurveOk; exact inferInstance
def onC (ls : List Int) (y : Int) : Prop := ls.getD 0 0 ≤ y ∧ y ≤ ls.getD (ls.length - 1) 0
instance (ls : List Int) (y : Int) : Decidable (onC ls y) := by unfold onC; exact inferInstance
def ccode (ls vs : List Int) (p : Prop) [Decidable p] : Int := if CurveOk ls vs then (if p then 0 else 2) else 1
theorem ccode_ok {ls vs : List Int} {p : Prop} [Decidable p] (h : CurveOk ls vs) (hp : p) : ccode ls vs p = 0 := by unfold ccode; rw [if_pos h, if_pos hp]
theorem ccode_no {ls vs : List Int} {p : Prop} [Decidable p] (h : CurveOk ls vs) (hp : ¬ p) : ccode ls vs p = 2 := by unfold ccode; rw [if_pos h, if_neg hp]
theorem ccode_bad {ls vs : List Int} {p : Prop} [Decidable p] (h : ¬ CurveOk ls vs) : ccode ls vs p = 1 := if_neg h

theorem ccode_ne {ls vs : List Int} {p : Prop} [Decidable p] (h : ¬ (CurveOk ls vs ∧ p)) : (ccode ls vs p != 0) = true := by
  unfold ccode
  split
  · rw [if_neg (fun hp => h ⟨‹_›, hp⟩)]; rfl
  · rfl
theorem ccode_and {ls vs : List Int} {p q : Prop} [Decidable p] [Decidable q] [Decidable (p ∧ q)] (h : ¬ (CurveOk ls vs ∧ p)) : ccode ls vs (p ∧ q) = ccode ls vs p := by
  unfold ccode
  split
  · rw [if_neg (fun hp => h ⟨‹_›, hp⟩), if_neg (fun hp => h ⟨‹_›, hp.1⟩)]
  · rfl

/-- the knot before a level, or the last but one -/
def overP (ls : List Int) (y : Int) (k : Nat) : Prop := y < ls.getD (k + 1) 0
instance (ls : List Int) (y : Int) : DecidablePred (overP ls y) := fun k => by unfold overP; exact inferInstance
def kn (ls : List Int) (y : Int) : Nat := cntNo (overP ls y) (ls.length - 2)
def vAt (ls vs : List Int) (y : Int) : Int :=
  vs.getD (kn ls y) 0 + (vs.getD (kn ls y + 1) 0 - vs.getD (kn ls y) 0) * (y - ls.getD (kn ls y) 0) / (ls.getD (kn ls y + 1) 0 - ls.getD (kn ls y) 0)
/-- at the h-th level there is enough water -/
def enough (ls vs : List Int) (v : Int) (h : Nat) : Prop := v ≤ vAt ls vs (ls.getD 0 0 + (h : Int))
instance (ls vs : List Int) (v : Int) : DecidablePred (enough ls vs v) := fun k => by unfold enough; exact inferInstance
def span (ls : List Int) : Nat := (ls.getD (ls.length - 1) 0 - ls.getD 0 0).toNat
def lvAt (ls vs : List Int) (v : Int) : Int := ls.getD 0 0 + (cntNo (enough ls vs v) (span ls) : Int)

theorem Ris.lt {lo hi : Int} {ys : List Int} (h : Ris lo hi ys) {i j : Nat} (hij : i < j) (hj : j < ys.length) : ys.getD i 0 < ys.getD j 0 := by
  induction j with
  | zero => omega
  | succ j ih =>
    have h1 := (h (j + 1) hj).2 (by omega)
    simp only [Nat.add_sub_cancel] at h1
    by_cases e : i = j
    · subst e; exact h1
    · have := ih (by omega) (by omega); omega
theorem Ris.le {lo hi : Int} {ys : List Int} (h : Ris lo hi ys) {i j : Nat} (hij : i ≤ j) (hj : j < ys.length) : ys.getD i 0 ≤ ys.getD j 0 := by
  by_cases e : i = j
  · subst e; exact Int.le_refl _
  · have := h.lt (show i < j by omega) hj; omega
theorem Ris.bd {lo hi : Int} {ys : List Int} (h : Ris lo hi ys) {j : Nat} (hj : j < ys.length) : lo ≤ ys.getD j 0 ∧ ys.getD j 0 ≤ hi := (h j hj).1

theorem kn_eq {ls : List Int} {lo hi y : Int} (h : Ris lo hi ls) {k : Nat} (hk : k ≤ ls.length - 2) (h1 : ∀ j, j < k → ls.getD (j + 1) 0 ≤ y) (h2 : k < ls.length - 2 → y < ls.getD (k + 1) 0) : kn ls y = k := by
  refine cntNo_eq hk ?_ (fun j hj => ?_) h2
  · intro a b hab hb ha
    unfold overP at ha ⊢
    have := h.le (show a + 1 ≤ b + 1 by omega) (by omega)
    omega
  · unfold overP; have := h1 j hj; omega
theorem kn_lt {ls : List Int} {y : Int} (h : 2 ≤ ls.length) : kn ls y + 1 < ls.length := by
  have := cntNo_le (overP ls y) (ls.length - 2)
  unfold kn; omega
theorem kn_spec {ls : List Int} {lo hi y : Int} (h : Ris lo hi ls) (hn : 2 ≤ ls.length) (hy : ls.getD 0 0 ≤ y) : ls.getD (kn ls y) 0 ≤ y ∧ (kn ls y + 2 < ls.length → y < ls.getD (kn ls y + 1) 0) := by
  -- the least k with over, by search upwards
  have key : ∀ m, m ≤ ls.length - 2 → ∃ k, k ≤ m ∧ (∀ j, j < k → ls.getD (j + 1) 0 ≤ y) ∧ (k < m → y < ls.getD (k + 1) 0) := by
    intro m
    induction m with
    | zero => exact fun _ => ⟨0, Nat.le_refl _, fun j hj => absurd hj (by omega), fun h => absurd h (by omega)⟩
    | succ m ih =>
      intro hm
      obtain ⟨k, hk, a, b⟩ := ih (by omega)
      by_cases e : k < m
      · exact ⟨k, by omega, a, fun _ => b e⟩
      · obtain rfl : k = m := by omega
        by_cases g : y < ls.getD (k + 1) 0
        · exact ⟨k, by omega, a, fun _ => g⟩
        · refine ⟨k + 1, by omega, fun j hj => ?_, fun h => absurd h (by omega)⟩
          by_cases q : j = k
          · subst q; omega
          · exact a j (by omega)
  obtain ⟨k, hk, a, b⟩ := key (ls.length - 2) (Nat.le_refl _)
  rw [kn_eq h hk a b]
  refine ⟨?_, fun g => b (by omega)⟩
  by_cases e : k = 0
  · subst e; exact hy
  · obtain ⟨q, rfl⟩ : ∃ q, k = q + 1 := ⟨k - 1, by omega⟩
    exact a q (by omega)
theorem CurveOk.kn {ls vs : List Int} (h : CurveOk ls vs) {y : Int} (hy : onC ls y) : kn ls y + 1 < ls.length ∧ ls.getD (kn ls y) 0 ≤ y ∧ y ≤ ls.getD (kn ls y + 1) 0 := by
  obtain ⟨⟨h2, _⟩, _, hl, _⟩ := h
  have a := kn_lt (y := y) h2
  obtain ⟨b, c⟩ := kn_spec hl h2 hy.1
  refine ⟨a, b, ?_⟩
  by_cases e : Go.Proofs.YtfpfmfhhcgafcabDoor.kn ls y + 2 < ls.length
  · have := c e; omega
  · have e2 : Go.Proofs.YtfpfmfhhcgafcabDoor.kn ls y + 1 = ls.length - 1 := by omega
    rw [e2]; exact hy.2
/-- the parts of a volume -/
structure Part (ls vs : List Int) (y : Int) (k : Nat) : Prop where
  lt : k + 1 < ls.length
  ltv : k + 1 < vs.length
  l0 : -2000 ≤ ls.getD k 0
  ly : ls.getD k 0 ≤ y
  yl : y ≤ ls.getD (k + 1) 0
  l1 : ls.getD (k + 1) 0 ≤ 2000
  ll : ls.getD k 0 < ls.getD (k + 1) 0
  v0 : 0 ≤ vs.getD k 0
  vv : vs.getD k 0 < vs.getD (k + 1) 0
  v1 : vs.getD (k + 1) 0 ≤ 1000000000
theorem CurveOk.part {ls vs : List Int} (h : CurveOk ls vs) {y : Int} (hy : onC ls y) : Part ls vs y (Go.Proofs.YtfpfmfhhcgafcabDoor.kn ls y) := by
  obtain ⟨a, b, c⟩ := h.kn hy
  obtain ⟨_, hlen, hl, hv, _⟩ := h
  exact ⟨a, by omega, (hl.bd (by omega)).1, b, c, (hl.bd a).2, hl.lt (by omega) a, (hv.bd (by omega)).1, hv.lt (by omega) (by omega), (hv.bd (by omega)).2⟩
theorem mulBd {a b p q : Int} (h0 : 0 ≤ a) (h1 : a ≤ p) (g0 : 0 ≤ b) (g1 : b ≤ q) : 0 ≤ a * b ∧ a * b ≤ p * q :=
  ⟨Int.mul_nonneg h0 g0, Int.le_trans (Int.mul_le_mul_of_nonneg_right h1 g0) (Int.mul_le_mul_of_nonneg_left g1 (by omega))⟩
theorem Part.mul {ls vs : List Int} {y : Int} {k : Nat} (h : Part ls vs y k) : 0 ≤ (vs.getD (k + 1) 0 - vs.getD k 0) * (y - ls.getD k 0) ∧ (vs.getD (k + 1) 0 - vs.getD k 0) * (y - ls.getD k 0) ≤ 4000000000000 := by
  have a := h.l0; have b := h.ly; have c := h.yl; have d := h.l1; have e := h.v0; have f := h.vv; have g := h.v1
  exact mulBd (p := 1000000000) (q := 4000) (by omega) (by omega) (by omega) (by omega)
theorem Part.div {ls vs : List Int} {y : Int} {k : Nat} (h : Part ls vs y k) : 0 ≤ (vs.getD (k + 1) 0 - vs.getD k 0) * (y - ls.getD k 0) / (ls.getD (k + 1) 0 - ls.getD k 0) ∧ (vs.getD (k + 1) 0 - vs.getD k 0) * (y - ls.getD k 0) / (ls.getD (k + 1) 0 - ls.getD k 0) ≤ vs.getD (k + 1) 0 - vs.getD k 0 := by
  have a := h.ll; have f := h.vv; have b := h.ly; have c := h.yl
  refine ⟨Int.ediv_nonneg h.mul.1 (by omega), ?_⟩
  have : (vs.getD (k + 1) 0 - vs.getD k 0) * (y - ls.getD k 0) ≤ (vs.getD (k + 1) 0 - vs.getD k 0) * (ls.getD (k + 1) 0 - ls.getD k 0) := Int.mul_le_mul_of_nonneg_left (by omega) (by omega)
  have h2 := Int.ediv_le_ediv (show 0 < ls.getD (k + 1) 0 - ls.getD k 0 by omega) this
  rwa [Int.mul_ediv_cancel _ (by omega)] at h2
theorem vAt_bd {ls vs : List Int} (h : CurveOk ls vs) {y : Int} (hy : onC ls y) : 0 ≤ vAt ls vs y ∧ vAt ls vs y ≤ 1000000000 := by
  have p := h.part hy
  have d := p.div; have e := p.v0; have f := p.v1
  unfold vAt
  omega
theorem vAt_mono {ls vs : List Int} (h : CurveOk ls vs) {x y : Int} (hx : onC ls x) (hy : onC ls y) (hxy : x ≤ y) : vAt ls vs x ≤ vAt ls vs y := by
  have p := h.part hx
  have q := h.part hy
  have hkk : kn ls x ≤ kn ls y := by
    by_cases g : kn ls x ≤ kn ls y
    · exact g
    · have h1 := (h.2.2.1).le (show kn ls y + 1 ≤ kn ls x by omega) (by have := p.lt; omega)
      have h2 := (kn_spec h.2.2.1 h.1.1 hy.1).2 (by have := p.lt; omega)
      have h3 := p.ly
      omega
  by_cases e : kn ls x = kn ls y
  · have a := p.ll; have f := p.vv
    unfold vAt
    rw [← e]
    have : (vs.getD (kn ls x + 1) 0 - vs.getD (kn ls x) 0) * (x - ls.getD (kn ls x) 0) ≤ (vs.getD (kn ls x + 1) 0 - vs.getD (kn ls x) 0) * (y - ls.getD (kn ls x) 0) := Int.mul_le_mul_of_nonneg_left (by omega) (by omega)
    have h2 := Int.ediv_le_ediv (show 0 < ls.getD (kn ls x + 1) 0 - ls.getD (kn ls x) 0 by omega) this
    omega
  · have d1 := p.div; have d2 := q.div
    have h1 := (h.2.2.2.1).le (show kn ls x + 1 ≤ kn ls y by omega) (by have := q.ltv; omega)
    unfold vAt
    omega
theorem vAt_last {ls vs : List Int} (h : CurveOk ls vs) : vAt ls vs (ls.getD (ls.length - 1) 0) = vs.getD (vs.length - 1) 0 := by
  have h1 := h.1.1
  have hk : kn ls (ls.getD (ls.length - 1) 0) = ls.length - 2 := kn_eq h.2.2.1 (Nat.le_refl _) (fun j hj => (h.2.2.1).le (by omega) (by omega)) (fun e => absurd e (by omega))
  have e : ls.length - 2 + 1 = ls.length - 1 := by omega
  have e2 : vs.length - 1 = ls.length - 1 := by rw [h.2.1]
  have a := (h.2.2.1).lt (show ls.length - 2 < ls.length - 1 by omega) (by omega)
  unfold vAt
  rw [hk, e, e2, Int.mul_ediv_cancel _ (by omega)]
  omega
theorem onC_first {ls vs : List Int} (h : CurveOk ls vs) : onC ls (ls.getD 0 0) := ⟨Int.le_refl _, (h.2.2.1).le (Nat.zero_le _) (by have := h.1.1; omega)⟩
theorem onC_last {ls vs : List Int} (h : CurveOk ls vs) : onC ls (ls.getD (ls.length - 1) 0) := ⟨(h.2.2.1).le (Nat.zero_le _) (by have := h.1.1; omega), Int.le_refl _⟩
theorem span_eq {ls vs : List Int} (h : CurveOk ls vs) : (span ls : Int) = ls.getD (ls.length - 1) 0 - ls.getD 0 0 := by
  have := (onC_first h).2
  unfold span; omega
theorem onC_at {ls vs : List Int} (h : CurveOk ls vs) {k : Nat} (hk : k ≤ span ls) : onC ls (ls.getD 0 0 + (k : Int)) := by
  have := span_eq h
  exact ⟨by omega, by omega⟩
theorem enough_mono {ls vs : List Int} (h : CurveOk ls vs) (v : Int) : ∀ a b, a ≤ b → b ≤ span ls → enough ls vs v a → enough ls vs v b := by
  intro a b hab hb ha
  exact Int.le_trans ha (vAt_mono h (onC_at h (by omega)) (onC_at h hb) (by omega))
theorem lvAt_eq {ls vs : List Int} (h : CurveOk ls vs) {v : Int} {i : Nat} (hi : i ≤ span ls) (h1 : ∀ k, k < i → ¬ enough ls vs v k) (h2 : i < span ls → enough ls vs v i) : lvAt ls vs v = ls.getD 0 0 + (i : Int) := by
  unfold lvAt
  rw [cntNo_eq hi (fun a b hab hb => enough_mono h v a b hab (by omega)) h1 h2]
theorem enough_last {ls vs : List Int} (h : CurveOk ls vs) {v : Int} (hv : v ≤ vs.getD (vs.length - 1) 0) : enough ls vs v (span ls) := by
  unfold enough
  rw [show ls.getD 0 0 + ((span ls : Nat) : Int) = ls.getD (ls.length - 1) 0 by rw [span_eq h]; omega, vAt_last h]
  exact hv

end Go.Proofs.YtfpfmfhhcgafcabDoor
