/- Stages of mills: whether they are valid; the codes: of the model and of the program. -/
import Derived.Test.YtlkgbemlagfdjaaMilST
import Derived.Test.YtlkgbemlagfdjaaAlMill
namespace Go.Proofs.Ytlkgbemlagfdjaa
open Go.RowKit

def rowOk (xs : List RMill) : Prop := alMill xs.length xs ∧ 1 ≤ xs.length ∧ xs.length ≤ 8
instance (xs : List RMill) : Decidable (rowOk xs) := by unfold rowOk; exact inferInstance
def rowsOk (n : Nat) (xss : List (List RMill)) : Prop := ∀ j, j < n → rowOk (mGet xss j)
instance (n : Nat) (xss : List (List RMill)) : Decidable (rowsOk n xss) := by unfold rowsOk; exact inferInstance
def stOk (n : Nat) (xss : List (List RMill)) : Prop := rowsOk n xss ∧ 1 ≤ n ∧ n ≤ 4
instance (n : Nat) (xss : List (List RMill)) : Decidable (stOk n xss) := by unfold stOk; exact inferInstance

set_option maxHeartbeats 800000 in
theorem l10List_any (A : Option Addr) (n c : Nat) (xs : List RMill) (w : World) (hn : n ≤ 1048576) (ha : Rd_Mill w w.heap.size A n xs) (v : Bool) (hv : v = decide (rowOk xs)) :
    Calls Try.prog 92 #[.slice A n c] w fun e w' => e = .returned (.bool v) ∧ Below w.heap.size w w' := by
  have hln := ha.len
  have HA := Lib.hid ha
  have HB := Lib.hid (show v = true ↔ alMill n xs ∧ 1 ≤ n ∧ n ≤ 8 by rw [hv, decide_eq_true_iff]; unfold rowOk; rw [hln])
  clear ha hv
  go_enter Try.func92, Try.ntmps92
  go_wp2
  go_loopw [3] (fun i wr => ∃ k : Nat, k ≤ n ∧ i = .int .i64 (k : Int) ∧ Below w.heap.size w wr ∧ Hid (∀ j, j < k → mlOk (xs.getD j zMill).f0 (xs.getD j zMill).f1 (xs.getD j zMill).f2 (xs.getD j zMill).f3)) (fun i _ => n - (intOf i).toNat)
  case atStart => exact ⟨0, by omega, rfl, Below.refl _ _, fun j hj => absurd hj (by omega)⟩
  case round =>
    obtain ⟨k, hk, rfl, hbw, hr⟩ := hrel
    have hzw := hbw.size
    by_cases hlt : k < n
    · obtain ⟨ab, o, rfl, hbB, hc⟩ := (HA.out.below hbw).at (by omega)
      have p := hc k hlt
      clear hc
      obtain ⟨x, hx⟩ : ∃ x, x = xs.getD k zMill := ⟨_, rfl⟩
      rw [← hx] at p
      have HX := Lib.hid hx
      clear hx
      obtain ⟨x0, x1, x2, x3⟩ := x
      obtain ⟨p0, p1, p2, p3⟩ := p
      simp only at p0 p1 p2 p3
      by_cases hg : mlOk x0 x1 x2 x3
      · have HG := Lib.hid (show true = decide (mlOk x0 x1 x2 x3) from (decide_eq_true hg).symm)
        have HG2 := Lib.hid hg
        clear hg
        go_wp2_with (go_at_call 51; refine (mlS_any _ _ _ _ _ true HG.out).mono ?_; rintro e w' ⟨rfl, b1⟩)
        go_roundw
        case rel => exact ⟨k + 1, by omega, by go_num, hbw.trans (b1.mono hzw), fun j hj => by
          by_cases e : j = k
          · subst e; rw [← HX.out]; exact HG2.out
          · exact hr.out j (by omega)⟩
        case measure => simp [intOf]; omega
      · have HG := Lib.hid (show false = decide (mlOk x0 x1 x2 x3) from (decide_eq_false hg).symm)
        have hbf : v = false := by
          cases hb : v
          · rfl
          · have := (HB.out.1 hb).1 k hlt
            rw [← HX.out] at this
            exact absurd this hg
        have HF := Lib.hid hbf
        clear hbf hg
        go_wp2_with (go_at_call 51; refine (mlS_any _ _ _ _ _ false HG.out).mono ?_; rintro e w' ⟨rfl, b1⟩)
        go_ret
        exact ⟨ret_bool HF.out.symm, hbw.trans (b1.mono hzw)⟩
    · obtain rfl : k = n := by omega
      have HE := Lib.hid (show v = decide (1 ≤ (k : Int) ∧ (k : Int) ≤ 8) by
        cases hb : v
        · symm; exact decide_eq_false (fun h2 => by have := HB.out.2 ⟨hr.out, by omega, by omega⟩; rw [hb] at this; cases this)
        · symm; have := (HB.out.1 hb).2; exact decide_eq_true (by omega))
      go_wp2_with (first | (go_at_call 91; refine (in_any _ _ _ _).mono ?_; rintro e w' ⟨rfl, rfl⟩))
      go_ret
      exact ⟨ret_bool (by rw [HE.out, Bool.decide_and]), hbw⟩

set_option maxHeartbeats 800000 in
theorem l10All_any (A : Option Addr) (n c : Nat) (xss : List (List RMill)) (w : World) (hn : totSS xss ≤ 1048576) (ha : Rd_MillSS w w.heap.size A n xss) (v : Bool) (hv : v = decide (stOk n xss)) :
    Calls Try.prog 59 #[.slice A n c] w fun e w' => e = .returned (.bool v) ∧ Below w.heap.size w w' := by
  have hln := ha.1
  have HA := Lib.hid ha
  have HB := Lib.hid (show v = true ↔ stOk n xss by rw [hv, decide_eq_true_iff])
  unfold totSS at hn
  rw [hln] at hn
  clear ha hv
  go_enter Try.func59, Try.ntmps59
  go_wp2
  go_loopw [3] (fun i wr => ∃ k : Nat, k ≤ n ∧ i = .int .i64 (k : Int) ∧ Below w.heap.size w wr ∧ Hid (rowsOk k xss)) (fun i _ => n - (intOf i).toNat)
  case atStart => exact ⟨0, by omega, rfl, Below.refl _ _, fun j hj => absurd hj (by omega)⟩
  case round =>
    obtain ⟨k, hk, rfl, hbw, hr⟩ := hrel
    have hzw := hbw.size
    by_cases hlt : k < n
    · obtain ⟨b, off, rfl, hB, hc⟩ := HA.out.2 (by omega)
      obtain ⟨A', c', h1, h3⟩ := hc k hlt
      have c1 := (hbw.cell (p := ⟨b, off + k, none⟩) hB).trans h1
      have hm := lenSS_at xss hlt
      have R1 := Lib.hid (Rd_Mill.mono (h3.below hbw) hzw)
      clear hc h1 h3
      obtain ⟨u, hu⟩ : ∃ u, u = decide (rowOk (mGet xss k)) := ⟨_, rfl⟩
      have HU := Lib.hid hu
      cases u with
      | true =>
        have HG := Lib.hid (of_decide_eq_true hu.symm)
        clear hu
        go_wp2_with (go_at_call 92; refine (l10List_any _ _ _ (mGet xss k) _ (by omega) R1.out true HU.out).mono ?_; rintro e w' ⟨rfl, b1⟩)
        go_roundw
        case rel => exact ⟨k + 1, by omega, by go_num, hbw.trans (b1.mono hzw), fun j hj => by
          by_cases e : j = k
          · subst e; exact HG.out
          · exact hr.out j (by omega)⟩
        case measure => simp [intOf]; omega
      | false =>
        have hg := of_decide_eq_false hu.symm
        have hbf : v = false := by
          cases hb : v
          · rfl
          · exact absurd ((HB.out.1 hb).1 k hlt) hg
        have HF := Lib.hid hbf
        clear hbf hg hu
        go_wp2_with (go_at_call 92; refine (l10List_any _ _ _ (mGet xss k) _ (by omega) R1.out false HU.out).mono ?_; rintro e w' ⟨rfl, b1⟩)
        go_ret
        exact ⟨ret_bool HF.out.symm, hbw.trans (b1.mono hzw)⟩
    · obtain rfl : k = n := by omega
      have HE := Lib.hid (show v = decide (1 ≤ (k : Int) ∧ (k : Int) ≤ 4) by
        cases hb : v
        · symm; exact decide_eq_false (fun h2 => by have := HB.out.2 ⟨hr.out, by omega, by omega⟩; rw [hb] at this; cases this)
        · symm; have := (HB.out.1 hb).2; exact decide_eq_true (by omega))
      go_wp2_with (first | (go_at_call 91; refine (in_any _ _ _ _).mono ?_; rintro e w' ⟨rfl, rfl⟩))
      go_ret
      exact ⟨ret_bool (by rw [HE.out, Bool.decide_and]), hbw⟩

set_option maxHeartbeats 800000 in
theorem areMills_any (A : Option Addr) (n c : Nat) (xs : List RMill) (w : World) (hn : n ≤ 1048576) (ha : Rd_Mill w w.heap.size A n xs) (v : Bool) (hv : v = decide (rowOk xs)) :
    Calls Try.prog 62 #[.slice A n c] w fun e w' => e = .returned (.bool v) ∧ Below w.heap.size w w' := by
  have hln := ha.len
  have HA := Lib.hid ha
  have HB := Lib.hid (show v = true ↔ alMill n xs ∧ 1 ≤ n ∧ n ≤ 8 by rw [hv, decide_eq_true_iff]; unfold rowOk; rw [hln])
  clear ha hv
  by_cases h8 : 1 ≤ (n : Int) ∧ (n : Int) ≤ 8
  · have HU := Lib.hid (show v = true ↔ alMill n xs from HB.out.trans ⟨fun h => h.1, fun h => ⟨h, by omega, by omega⟩⟩)
    go_enter Try.func62, Try.ntmps62
    go_wp2_with (first | (go_at_call 52; first | (refine (within_t _ _ _ _ (by omega)).mono ?_; rintro e w' ⟨rfl, rfl⟩) | (refine (within_f _ _ _ _ (by omega)).mono ?_; rintro e w' ⟨rfl, rfl⟩)) | (go_at_call 95; refine (alMill_all _ _ _ xs _ hn HA.out _ HU.out).mono ?_; rintro e1 w1 ⟨rfl, b1⟩))
    go_ret
    exact ⟨rfl, b1⟩
  · have hbf : v = false := by
      cases hb : v
      · rfl
      · have := (HB.out.1 hb).2
        omega
    subst hbf
    have h' : (n : Int) < 1 ∨ 8 < (n : Int) := by omega
    clear h8
    go_enter Try.func62, Try.ntmps62
    go_wp2_with (first | (go_at_call 52; first | (refine (within_t _ _ _ _ (by omega)).mono ?_; rintro e w' ⟨rfl, rfl⟩) | (refine (within_f _ _ _ _ (by omega)).mono ?_; rintro e w' ⟨rfl, rfl⟩)))
    go_ret
    exact ⟨rfl, (by repeat (first | assumption | exact Below.refl _ _ | (refine Below.setCell ?_ (by first | omega | (simp; done) | (simp; omega)) _) | apply below_drewN | apply Below.drew | (refine Below.alloc ?_ (by first | omega | (simp; done) | (simp; omega)) _)))⟩

set_option maxHeartbeats 800000 in
theorem alRow_no (A : Option Addr) (n c : Nat) (xs : List RMill) (B3 : Nat) (w : World) (hn : n ≤ 1048576) (ha : Rd_Mill w w.heap.size A n xs) (c3 : w.cell? ⟨B3, 0, none⟩ = some (.func (.func 62) #[] #[])) (v : Bool) (hv : v = decide (¬ rowOk xs)) :
    Calls Try.prog 94 #[.slice A n c, .pointer (some ⟨B3, 0, none⟩)] w fun e w' => e = .returned (.bool v) ∧ Below w.heap.size w w' := by
  have hnot : ∀ (x : Bool) (w : World), (Op.unary .not (.bool x)).run Try.prog w = .ok (.bool (!x)) w := fun _ _ => rfl
  obtain ⟨u, hu⟩ : ∃ u, u = decide (rowOk xs) := ⟨_, rfl⟩
  have HU := Lib.hid hu
  have HA := Lib.hid ha
  have HV := Lib.hid (show v = !u by rw [hv, hu, decide_not])
  clear hv hu ha
  go_enter Try.func94, Try.ntmps94
  go_wp2_with (go_at_call 62; refine (areMills_any _ _ _ xs _ hn HA.out u HU.out).mono ?_; rintro e1 w1 ⟨rfl, b1⟩)
  go_ret
  exact ⟨ret_bool HV.out.symm, b1⟩

set_option maxHeartbeats 800000 in
theorem alRow_ix (B3 : Nat) (A : Option Addr) (n c : Nat) (xss : List (List RMill)) (w : World) (hn : totSS xss ≤ 1048576) (ha : Rd_MillSS w w.heap.size A n xss) (c3 : w.cell? ⟨B3, 0, none⟩ = some (.func (.func 62) #[] #[])) (h3 : B3 < w.heap.size) (b : Bool) (hb : b = true ↔ rowsOk n xss) :
    Calls Try.prog 106 #[.slice A n c, .func (.func 94) #[] #[.pointer (some ⟨B3, 0, none⟩)]] w fun e w' => ∃ k : Int, e = .returned (.int .i64 k) ∧ Below w.heap.size w w' ∧ decide (0 ≤ k) = !b := by
  have hln := ha.1
  have HA := Lib.hid ha
  have HB := Lib.hid hb
  have C3 := Lib.hid c3
  unfold totSS at hn
  rw [hln] at hn
  clear ha hb c3
  go_enter Try.func106, Try.ntmps106
  go_wp2
  go_loopw [5, 8] (fun _ i wr => ∃ k : Nat, k ≤ n ∧ i = .int .i64 (k : Int) ∧ Below w.heap.size w wr ∧ Hid (rowsOk k xss)) (fun _ i _ => n - (intOf i).toNat)
  case atStart => exact ⟨0, by omega, rfl, Below.refl _ _, fun j hj => absurd hj (by omega)⟩
  case round =>
    obtain ⟨k, hk, rfl, hbw, hr⟩ := hrel
    have hzw := hbw.size
    have c3w := (hbw.cell (p := ⟨B3, 0, none⟩) h3).trans C3.out
    have C3W := Lib.hid c3w
    clear c3w
    by_cases hlt : k < n
    · obtain ⟨bb, off, rfl, hB, hc⟩ := HA.out.2 (by omega)
      obtain ⟨A', c', h1, h4⟩ := hc k hlt
      have c1 := (hbw.cell (p := ⟨bb, off + k, none⟩) hB).trans h1
      have hm := lenSS_at xss hlt
      have R1 := Lib.hid (Rd_Mill.mono (h4.below hbw) hzw)
      clear hc h1 h4
      by_cases hg : rowOk (mGet xss k)
      · have HG := Lib.hid (show false = decide (¬ rowOk (mGet xss k)) from (decide_eq_false (fun g => g hg)).symm)
        have HG2 := Lib.hid hg
        clear hg
        go_wp2_with (go_at_call 94; refine (alRow_no _ _ _ (mGet xss k) B3 _ (by omega) R1.out C3W.out false HG.out).mono ?_; rintro e w' ⟨rfl, b1⟩)
        go_roundw
        case rel => exact ⟨k + 1, by omega, by go_num, hbw.trans (b1.mono hzw), fun j hj => by
          by_cases e : j = k
          · subst e; exact HG2.out
          · exact hr.out j (by omega)⟩
        case measure => simp [intOf]; omega
      · have HG := Lib.hid (show true = decide (¬ rowOk (mGet xss k)) from (decide_eq_true hg).symm)
        have hbf : b = false := by
          cases hb : b
          · rfl
          · exact absurd ((HB.out.1 hb) k hlt) hg
        have HF := Lib.hid hbf
        clear hbf hg
        go_wp2_with (go_at_call 94; refine (alRow_no _ _ _ (mGet xss k) B3 _ (by omega) R1.out C3W.out true HG.out).mono ?_; rintro e w' ⟨rfl, b1⟩)
        go_ret
        exact ⟨(k : Int), rfl, hbw.trans (b1.mono hzw), by rw [HF.out]; simp⟩
    · obtain rfl : k = n := by omega
      have HT := Lib.hid (HB.out.2 hr.out)
      go_wp2
      go_ret
      exact ⟨-1, rfl, hbw, by rw [HT.out]; simp⟩

theorem alRow_all (A : Option Addr) (n c : Nat) (xss : List (List RMill)) (w : World) (hn : totSS xss ≤ 1048576) (ha : Rd_MillSS w w.heap.size A n xss) (b : Bool) (hb : b = true ↔ rowsOk n xss) :
    Calls Try.prog 61 #[.slice A n c, .func (.func 62) #[] #[]] w fun e w' => e = .returned (.bool b) ∧ Below w.heap.size w w' := by
  have HA := Lib.hid ha
  have HB := Lib.hid hb
  have hnot : ∀ (x : Bool) (w : World), (Op.unary .not (.bool x)).run Try.prog w = .ok (.bool (!x)) w := fun _ _ => rfl
  have hmf : ∀ (fn : Fn) (first cap : Array Value) (w : World), (Instr.makeFunc fn first cap).run Try.prog w = .ok (.func fn first cap) w := fun _ _ _ _ => rfl
  clear ha hb
  go_enter Try.func61, Try.ntmps61
  go_wp2_with (first | (go_at_call 106; refine (alRow_ix w.heap.size _ _ _ xss _ hn ((HA.out.below (by repeat (first | assumption | exact Below.refl _ _ | (refine Below.setCell ?_ (by first | omega | (simp; done) | (simp; omega)) _) | apply below_drewN | apply Below.drew | (refine Below.alloc ?_ (by first | omega | (simp; done) | (simp; omega)) _)))).mono (by first | omega | (simp; done) | (simp; omega))) (by simp) (by simp) b HB.out).mono ?_; rintro e1 w1 ⟨k, rfl, b1, hk⟩; have HK := Lib.hid hk; clear hk) | go_in)
  go_ret
  exact ⟨by simp [HK.out], (by repeat (first | assumption | exact Below.refl _ _ | (refine Below.trans ?_ (b1.mono (by first | omega | (simp; done) | (simp; omega)))) | (refine Below.setCell ?_ (by first | omega | (simp; done) | (simp; omega)) _) | apply below_drewN | apply Below.drew | (refine Below.alloc ?_ (by first | omega | (simp; done) | (simp; omega)) _)))⟩

set_option maxHeartbeats 800000 in
theorem validStages_any (A : Option Addr) (n c : Nat) (xss : List (List RMill)) (w : World) (hn : totSS xss ≤ 1048576) (ha : Rd_MillSS w w.heap.size A n xss) (v : Bool) (hv : v = decide (stOk n xss)) :
    Calls Try.prog 23 #[.slice A n c] w fun e w' => e = .returned (.bool v) ∧ Below w.heap.size w w' := by
  have hln := ha.1
  have HA := Lib.hid ha
  have HB := Lib.hid (show v = true ↔ stOk n xss by rw [hv, decide_eq_true_iff])
  have hn' : n ≤ 1048576 := by unfold totSS at hn; omega
  clear ha hv
  by_cases h8 : 1 ≤ (n : Int) ∧ (n : Int) ≤ 4
  · have HU := Lib.hid (show v = true ↔ rowsOk n xss from HB.out.trans ⟨fun h => h.1, fun h => ⟨h, by omega, by omega⟩⟩)
    go_enter Try.func23, Try.ntmps23
    go_wp2_with (first | (go_at_call 52; first | (refine (within_t _ _ _ _ (by omega)).mono ?_; rintro e w' ⟨rfl, rfl⟩) | (refine (within_f _ _ _ _ (by omega)).mono ?_; rintro e w' ⟨rfl, rfl⟩)) | (go_at_call 61; refine (alRow_all _ _ _ xss _ hn HA.out _ HU.out).mono ?_; rintro e1 w1 ⟨rfl, b1⟩))
    go_ret
    exact ⟨rfl, b1⟩
  · have hbf : v = false := by
      cases hb : v
      · rfl
      · have := (HB.out.1 hb).2
        omega
    subst hbf
    have h' : (n : Int) < 1 ∨ 4 < (n : Int) := by omega
    clear h8
    go_enter Try.func23, Try.ntmps23
    go_wp2_with (first | (go_at_call 52; first | (refine (within_t _ _ _ _ (by omega)).mono ?_; rintro e w' ⟨rfl, rfl⟩) | (refine (within_f _ _ _ _ (by omega)).mono ?_; rintro e w' ⟨rfl, rfl⟩)))
    go_ret
    exact ⟨rfl, (by repeat (first | assumption | exact Below.refl _ _ | (refine Below.setCell ?_ (by first | omega | (simp; done) | (simp; omega)) _) | apply below_drewN | apply Below.drew | (refine Below.alloc ?_ (by first | omega | (simp; done) | (simp; omega)) _)))⟩

end Go.Proofs.Ytlkgbemlagfdjaa
