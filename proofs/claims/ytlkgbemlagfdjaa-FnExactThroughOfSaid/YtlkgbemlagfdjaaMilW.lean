/- The weakest stage: the first least number; both sides. -/
import Derived.Test.YtlkgbemlagfdjaaCStageRates
namespace Go.Proofs.Ytlkgbemlagfdjaa
open Go.RowKit

def leastW (xs : List Int) : Nat → Int
  | 0 => xs.getD 0 0
  | k + 1 => min (leastW xs k) (xs.getD (k + 1) 0)
theorem leastW_add (xs : List Int) (k : Nat) : leastW xs (k + 1) = min (leastW xs k) (xs.getD (k + 1) 0) := rfl

set_option maxHeartbeats 800000 in
theorem slMinW_t (A : Option Addr) (n c : Nat) (xs : List Int) (w : World) (hn : n ≤ 1048576) (h0 : 0 < n) (ha : Rd w w.heap.size A n xs) :
    Calls Try.prog 73 #[.slice A n c] w fun e w' => e = .returned (.int .i64 (leastW xs (n - 1))) ∧ w = w' := by
  obtain ⟨b, o, rfl, hbB, hc⟩ := ha.2 h0
  have HC := Lib.hid hc
  have c0 := hc 0 h0
  clear hc ha
  rw [Nat.add_zero] at c0
  go_enter Try.func73, Try.ntmps73
  go_wp2
  go_loop [3, 4] (fun t i => ∃ q : Nat, q + 1 ≤ n ∧ i = .int .i64 ((q + 1 : Nat) : Int) ∧ t = .int .i64 (leastW xs q)) (fun _ i => n - (intOf i).toNat)
  case atStart => exact ⟨0, by omega, rfl, by simp [leastW]⟩
  case round =>
    obtain ⟨q, hq, rfl, rfl⟩ := hrel
    by_cases hlt : q + 1 < n
    · have c1 := HC.out (q + 1) hlt
      have E := Lib.hid (leastW_add xs q)
      obtain ⟨x, hx⟩ : ∃ x, x = xs.getD (q + 1) 0 := ⟨_, rfl⟩
      obtain ⟨l, hl⟩ : ∃ x, x = leastW xs q := ⟨_, rfl⟩
      rw [← hx] at c1 E
      rw [← hl] at E
      rw [← hl]
      clear hx hl
      by_cases hm : l < x
      · have E3 := Lib.hid (show min l x = l by omega)
        go_wp2
        go_round
        case rel => exact ⟨q + 1, by omega, by go_num, by (rw [E.out, E3.out]) <;> (first | rfl | (congr 1; split <;> omega))⟩
        case measure => simp [intOf]; omega
      · have E3 := Lib.hid (show min l x = x by omega)
        go_wp2
        go_round
        case rel => exact ⟨q + 1, by omega, by go_num, by (rw [E.out, E3.out]) <;> (first | rfl | (congr 1; split <;> omega))⟩
        case measure => simp [intOf]; omega
    · have hq' : leastW xs q = leastW xs (n - 1) := by rw [show n - 1 = q by omega]
      have HQ := Lib.hid hq'
      clear hq'
      go_wp2
      go_ret
      exact ⟨ret_int HQ.out, rfl⟩

set_option maxHeartbeats 800000 in
theorem index_ne (A : Option Addr) (n c : Nat) (xs : List Int) (v : Int) (p : Nat) (w : World) (hn : n ≤ 1048576) (hp : p < n) (hv : xs.getD p 0 = v) (hlo : ∀ j, j < p → xs.getD j 0 ≠ v) (ha : Rd w w.heap.size A n xs) :
    Calls Try.prog 97 #[.slice A n c, .int .i64 v] w fun e w' => e = .returned (.int .i64 (p : Int)) ∧ w = w' := by
  obtain ⟨b, o, rfl, hbB, hc⟩ := ha.2 (by omega)
  have HC := Lib.hid hc
  have HL := Lib.hid hlo
  have HV := Lib.hid hv
  clear ha hc hlo hv
  go_enter Try.func97, Try.ntmps97
  go_wp2
  go_loop [5, 8] (fun _ i => ∃ k : Nat, k ≤ p ∧ i = .int .i64 (k : Int)) (fun _ i => n - (intOf i).toNat)
  case atStart => exact ⟨0, by omega, rfl⟩
  case round =>
    obtain ⟨k, hk, rfl⟩ := hrel
    have hlt : k < n := by omega
    have c1 := HC.out k hlt
    by_cases e : k = p
    · subst e
      rw [HV.out] at c1
      go_wp2
      go_ret
      exact ⟨rfl, rfl⟩
    · have hl := HL.out k (by omega)
      generalize xs.getD k 0 = x at *
      have hne : (v == x) = false := by simpa using fun e => hl e.symm
      go_wp2
      go_round
      case rel => exact ⟨k + 1, by omega, by go_num⟩
      case measure => simp [intOf]; omega

/-- the index of the first least one of the first k + 1 numbers -/
def biN (xs : List Int) : Nat → Nat
  | 0 => 0
  | k + 1 => if xs.getD (k + 1) 0 < xs.getD (biN xs k) 0 then k + 1 else biN xs k
theorem biN_le (xs : List Int) (k : Nat) : biN xs k ≤ k := by
  induction k with
  | zero => exact Nat.le_refl _
  | succ k ih => simp only [biN]; split <;> omega
theorem biN_least (xs : List Int) (k : Nat) : leastW xs k = xs.getD (biN xs k) 0 := by
  induction k with
  | zero => rfl
  | succ k ih =>
    simp only [leastW, biN]
    rw [ih]
    split <;> omega
theorem biN_min (xs : List Int) (k j : Nat) (hj : j ≤ k) : xs.getD (biN xs k) 0 ≤ xs.getD j 0 := by
  induction k with
  | zero => rw [show j = 0 by omega]; exact Int.le_refl _
  | succ k ih =>
    simp only [biN]
    by_cases e : j = k + 1
    · subst e; split <;> omega
    · have := ih (by omega); split <;> omega
theorem biN_first (xs : List Int) (k j : Nat) (hj : j < biN xs k) : xs.getD (biN xs k) 0 < xs.getD j 0 := by
  induction k with
  | zero => simp [biN] at hj
  | succ k ih =>
    have h1 := biN_le xs k
    simp only [biN] at hj ⊢
    split at hj
    · rename_i h
      rw [if_pos h]
      have := biN_min xs k j (by omega)
      omega
    · rename_i h
      rw [if_neg h]
      exact ih hj

theorem firstLeast_t (A : Option Addr) (n c : Nat) (xs : List Int) (w : World) (hn : n ≤ 1048576) (h0 : 0 < n) (ha : Rd w w.heap.size A n xs) :
    Calls Try.prog 74 #[.slice A n c] w fun e w' => e = .returned (.int .i64 ((biN xs (n - 1) : Nat) : Int)) ∧ w = w' := by
  have HA := Lib.hid ha
  have hb := biN_le xs (n - 1)
  have HV := Lib.hid (show xs.getD (biN xs (n - 1)) 0 = leastW xs (n - 1) from (biN_least xs _).symm)
  have HF := Lib.hid (show ∀ j, j < biN xs (n - 1) → xs.getD j 0 ≠ leastW xs (n - 1) from fun j hj => by have := biN_first xs (n - 1) j hj; rw [biN_least]; omega)
  clear ha
  obtain ⟨p, hp⟩ : ∃ p, p = biN xs (n - 1) := ⟨_, rfl⟩
  obtain ⟨l, hl⟩ : ∃ l, l = leastW xs (n - 1) := ⟨_, rfl⟩
  have HLT := Lib.hid hl
  rw [← hp, ← hl] at HV
  rw [← hp, ← hl] at HF
  rw [← hp] at hb ⊢
  clear hp hl
  go_enter Try.func74, Try.ntmps74
  go_wp2_with (first | (go_at_call 73; refine (slMinW_t _ n _ xs _ hn h0 HA.out).mono ?_; rintro e1 w1 ⟨rfl, rfl⟩; rw [← HLT.out]) | (go_at_call 97; refine (index_ne _ n _ xs l p _ hn (by omega) HV.out HF.out HA.out).mono ?_; rintro e2 w2 ⟨rfl, rfl⟩))
  go_ret
  exact ⟨rfl, rfl⟩

set_option maxHeartbeats 1600000 in
theorem l10Weak_t (A : Option Addr) (n c : Nat) (xss : List (List RMill)) (f : Int) (w : World) (ha : Rd_MillSS w w.heap.size A n xss) (hs : stOk n xss) (hf : fcOk f) (L : List Int) (hL : L = smL f xss n) :
    Calls Try.prog 72 #[.slice A n c, .int .i64 f] w fun e w' => e = .returned (.tuple #[.int .i64 ((biN L (n - 1) : Nat) : Int), .int .i64 (leastW L (n - 1))]) ∧ Below w.heap.size w w' := by
  have HA := Lib.hid ha
  have HS := Lib.hid hs
  have HL := Lib.hid hL
  have HF := Lib.hid hf
  have hn1 := hs.2.1
  have hn4 := hs.2.2
  obtain ⟨p9, hp9⟩ : ∃ p, p = biN L (n - 1) := ⟨_, rfl⟩
  obtain ⟨l9, hl9⟩ : ∃ p, p = leastW L (n - 1) := ⟨_, rfl⟩
  rw [← hp9, ← hl9]
  have HP9 := Lib.hid hp9
  have HL9 := Lib.hid hl9
  clear ha hs hL hf hp9 hl9
  go_enter Try.func72, Try.ntmps72
  go_wp2_with (go_at_call 67; refine (l10Sums_t _ n _ xss _ _ HA.out HS.out HF.out L HL.out).mono ?_; rintro e1 W1 ⟨B, d, rfl, b1, x1⟩)
  obtain ⟨b, o, rfl, hlo, hbB, hc⟩ := x1.2 (by omega)
  have HC := Lib.hid (fun j hj => (hc j hj).1)
  clear hc
  go_loopw [7, 8] (fun t i wr => ∃ q m : Nat, q + 1 ≤ n ∧ i = .int .i64 ((q + 1 : Nat) : Int) ∧ t = .int .i64 ((biN L q : Nat) : Int) ∧ wr = W1.drewN m) (fun _ i _ => n - (intOf i).toNat)
  case atStart => exact ⟨0, 0, by omega, rfl, rfl, rfl⟩
  case round =>
    obtain ⟨q, m, hq, rfl, rfl, rfl⟩ := hrel
    have hbl := biN_le L q
    by_cases hlt : q + 1 < n
    · have c1 := HC.out (q + 1) hlt
      have c2 := HC.out (biN L q) (by omega)
      have E := Lib.hid (show biN L (q + 1) = if L.getD (q + 1) 0 < L.getD (biN L q) 0 then q + 1 else biN L q from rfl)
      obtain ⟨x, hx⟩ : ∃ x, x = L.getD (q + 1) 0 := ⟨_, rfl⟩
      obtain ⟨y, hy⟩ : ∃ y, y = L.getD (biN L q) 0 := ⟨_, rfl⟩
      obtain ⟨p, hp⟩ : ∃ p, p = biN L q := ⟨_, rfl⟩
      rw [← hx, ← hy] at E
      rw [← hx] at c1
      rw [← hy, ← hp] at c2
      rw [← hp] at E hbl
      rw [← hp]
      clear hx hy hp
      by_cases hm : x < y
      · have E3 := Lib.hid (E.out.trans (if_pos hm))
        go_wp2
        go_quiet (fail)
        go_wp2
        go_roundw
        case rel => exact ⟨q + 1, _, by omega, by go_num, by rw [E3.out], rfl⟩
        case measure => simp [intOf]; omega
      · have E3 := Lib.hid (E.out.trans (if_neg hm))
        go_wp2
        go_quiet (fail)
        go_wp2
        go_roundw
        case rel => exact ⟨q + 1, _, by omega, by go_num, by rw [E3.out], rfl⟩
        case measure => simp [intOf]; omega
    · have c2 := HC.out (biN L q) (by omega)
      rw [← biN_least] at c2
      have e1 : biN L q = p9 := by rw [HP9.out, show n - 1 = q by omega]
      have e2 : leastW L q = l9 := by rw [HL9.out, show n - 1 = q by omega]
      rw [e1, e2] at c2
      rw [e1] at hbl
      rw [e1]
      clear e1 e2
      go_wp2
      go_quiet (fail)
      go_wp2
      go_ret2
      exact ⟨rfl, below_drewN (below_drewN b1 _) _⟩

end Go.Proofs.Ytlkgbemlagfdjaa
