/- The lowest cell next to a cell; the way down (plain mathematics; the program's helper). -/
import Derived.Test.YtagnhlcgfcppjabNear
namespace Go.Proofs.Ytagnhlcgfcppjab
open Go.RowKit

def hAt (xs : List Int) (y : Int) : Int := xs.getD y.toNat 0
def bestOf (xs : List Int) (x : Int) (ys : List Int) : Int := ys.foldl (fun b y => if hAt xs y < hAt xs b then y else b) x
theorem best_snoc (xs : List Int) (x : Int) (ys : List Int) (q : Nat) (hq : q < ys.length) :
    bestOf xs x (ys.take (q + 1)) = if hAt xs (ys.getD q 0) < hAt xs (bestOf xs x (ys.take q)) then ys.getD q 0 else bestOf xs x (ys.take q) := by
  unfold bestOf
  rw [List.take_succ_eq_append_getElem hq, List.foldl_append]
  simp [List.getD_eq_getElem?_getD, hq]
theorem best_mem (xs : List Int) (x n : Int) : ∀ (ys : List Int), (0 ≤ x ∧ x < n) → (∀ y ∈ ys, 0 ≤ y ∧ y < n) → 0 ≤ bestOf xs x ys ∧ bestOf xs x ys < n := by
  intro ys
  induction ys generalizing x with
  | nil => intro h _; exact h
  | cons y ys ih =>
    intro h hy
    show 0 ≤ bestOf xs (if hAt xs y < hAt xs x then y else x) ys ∧ bestOf xs (if hAt xs y < hAt xs x then y else x) ys < n
    refine ih _ ?_ (fun z hz => hy z (by simp [hz]))
    split
    · exact hy y (by simp)
    · exact h
theorem best_lt (xs : List Int) (x : Int) (ys : List Int) : bestOf xs x ys = x ∨ hAt xs (bestOf xs x ys) < hAt xs x := by
  induction ys generalizing x with
  | nil => exact .inl rfl
  | cons y ys ih =>
    show bestOf xs (if hAt xs y < hAt xs x then y else x) ys = x ∨ hAt xs (bestOf xs (if hAt xs y < hAt xs x then y else x) ys) < hAt xs x
    split
    · rename_i h
      rcases ih y with e | e
      · rw [e]; exact .inr h
      · exact .inr (by omega)
    · exact ih x
def wayT (r c : Int) (xs : List Int) : Nat → Int → List Int
  | 0, _ => []
  | f + 1, x => if bestOf xs x (near r c x) = x then [] else bestOf xs x (near r c x) :: wayT r c xs f (bestOf xs x (near r c x))
theorem wayT_len (r c : Int) (xs : List Int) (f : Nat) : ∀ x, (wayT r c xs f x).length ≤ f := by
  induction f with
  | zero => intro x; simp [wayT]
  | succ f ih =>
    intro x
    simp only [wayT]
    split
    · simp
    · have := ih (bestOf xs x (near r c x))
      simp only [List.length_cons]
      omega
def inC (n x : Int) : Prop := 0 ≤ x ∧ x ≤ n - 1
instance (n x : Int) : Decidable (inC n x) := by unfold inC; exact inferInstance

set_option maxRecDepth 100000 in
set_option maxHeartbeats 3200000 in
theorem lowestNext_t (r c : Int) (A : Option Addr) (n k : Nat) (xs : List Int) (x : Int) (w : World) (hn : n ≤ 1048576) (ha : Rd w w.heap.size A n xs) (h : LandOk r c xs) (hx0 : 0 ≤ x) (hx : x < (n : Int)) :
    Calls Try.prog 73 #[.agg #[.int .i64 r, .int .i64 c, .slice A n k], .int .i64 x] w fun e w' => e = .returned (.int .i64 (bestOf xs x (near r c x))) ∧ Below w.heap.size w w' := by
  have hln := ha.1
  have hnm := Lib.hid (near_mem h.1.1 h.2.1.1 hx0 hx (by rw [← hln]; exact h.2.2.1))
  have hnl := near_len r c x
  have H := Lib.hid h
  have HN := Lib.hid (show (n : Int) = r * c by rw [← hln]; exact h.2.2.1)
  have RA := Lib.hid ha
  obtain ⟨b0, o0, e0, hb0, hc0⟩ := ha.2 (by omega)
  have HC := Lib.hid hc0
  subst e0
  clear h ha hln hc0
  obtain ⟨ys, hys⟩ : ∃ ys, ys = near r c x := ⟨_, rfl⟩
  rw [← hys] at hnm hnl
  rw [← hys]
  have HY := Lib.hid hys
  clear hys
  go_enter Try.func73, Try.ntmps73
  go_wp2_with (go_at_call 88; refine (nextTo_t _ _ _ _ _ _ _ H.out.1 H.out.2.1 hx0 hx HN.out).mono ?_; rintro e1 W1 ⟨B, d, rfl, b1, x1⟩; rw [← HY.out] at x1 ⊢; obtain ⟨k1, f1⟩ := bcell b1; have s1 : w.heap.size < W1.heap.size := (by have := b1.size; simp at this; omega); have z0 : W1.cell? ⟨w.heap.size, 0, none⟩ = some (.int .i64 r) := (by rw [k1 _ _ (by first | omega | (simp; done) | (simp; omega))]; first | (simp; done) | go_simp); have zf0 : W1.frozen? ⟨w.heap.size, 0, none⟩ = false := (by rw [f1 _ _ (by first | omega | (simp; done) | (simp; omega))]; first | (simp; done) | go_simp); have z1 : W1.cell? ⟨w.heap.size, 1, none⟩ = some (.int .i64 c) := (by rw [k1 _ _ (by first | omega | (simp; done) | (simp; omega))]; first | (simp; done) | go_simp); have zf1 : W1.frozen? ⟨w.heap.size, 1, none⟩ = false := (by rw [f1 _ _ (by first | omega | (simp; done) | (simp; omega))]; first | (simp; done) | go_simp); have z2 : W1.cell? ⟨w.heap.size, 2, none⟩ = some (.slice (some ⟨b0, o0, none⟩) n k) := (by rw [k1 _ _ (by first | omega | (simp; done) | (simp; omega))]; first | (simp; done) | go_simp); have zf2 : W1.frozen? ⟨w.heap.size, 2, none⟩ = false := (by rw [f1 _ _ (by first | omega | (simp; done) | (simp; omega))]; first | (simp; done) | go_simp); clear k1 f1; have d1 : Below w.heap.size w W1 := (by repeat (first | assumption | exact Below.refl _ _ | (refine Below.trans ?_ (b1.mono (by first | omega | (simp; done) | (simp; omega)))) | (refine Below.setCell ?_ (by first | omega | (simp; done) | (simp; omega)) _) | apply below_drewN | apply Below.drew | (refine Below.alloc ?_ (by first | omega | (simp; done) | (simp; omega)) _))); clear b1)
  go_loopw [5, 7, 13] (fun t _ i wr => ∃ q m : Nat, q ≤ ys.length ∧ i = .int .i64 (q : Int) ∧ wr = W1.drewN m ∧ t = .int .i64 (bestOf xs x (ys.take q))) (fun _ _ i _ => ys.length - (intOf i).toNat)
  case atStart => exact ⟨0, 0, by omega, rfl, rfl, rfl⟩
  case round =>
    obtain ⟨q, m, hq, rfl, rfl, rfl⟩ := hrel
    by_cases hlt : q < ys.length
    · obtain ⟨b, o, rfl, _, hbB, hc⟩ := x1.2 (by omega)
      have c1 := (hc q hlt).1
      clear hc
      obtain ⟨m1, m2⟩ := hnm.out (ys.getD q 0) (by rw [List.getD_eq_getElem?_getD, List.getElem?_eq_getElem hlt]; exact List.getElem_mem hlt)
      obtain ⟨m3, m4⟩ := best_mem xs x n (ys.take q) ⟨hx0, hx⟩ (fun y hy => hnm.out y (List.mem_of_mem_take hy))
      have E := Lib.hid (best_snoc xs x ys q hlt)
      obtain ⟨y, hy⟩ : ∃ y, y = ys.getD q 0 := ⟨_, rfl⟩
      obtain ⟨bb, hbb⟩ : ∃ y, y = bestOf xs x (ys.take q) := ⟨_, rfl⟩
      rw [← hy] at c1 m1 m2 E
      rw [← hbb] at m3 m4 E
      rw [← hbb]
      clear hy hbb
      have c2 := (d1.cell (p := ⟨b0, o0 + y.toNat, none⟩) hb0).trans (HC.out y.toNat (by omega))
      have c3 := (d1.cell (p := ⟨b0, o0 + bb.toNat, none⟩) hb0).trans (HC.out bb.toNat (by omega))
      have e2 : hAt xs y = xs.getD y.toNat 0 := rfl
      have e3 : hAt xs bb = xs.getD bb.toNat 0 := rfl
      rw [← e2] at c2
      rw [← e3] at c3
      clear e2 e3
      obtain ⟨hy, ehy⟩ : ∃ y', y' = hAt xs y := ⟨_, rfl⟩
      obtain ⟨hb, ehb⟩ : ∃ y', y' = hAt xs bb := ⟨_, rfl⟩
      rw [← ehy] at c2 E
      rw [← ehb] at c3 E
      clear ehy ehb
      by_cases ht : hy < hb
      · have E2 := Lib.hid (E.out.trans (if_pos ht))
        go_wp2
        go_quiet (fail)
        go_wp2
        go_roundw
        case rel => exact ⟨q + 1, _, by omega, by go_num, rfl, by rw [E2.out]⟩
        case measure => simp [intOf]; omega
      · have E2 := Lib.hid (E.out.trans (if_neg ht))
        go_wp2
        go_quiet (fail)
        go_wp2
        go_roundw
        case rel => exact ⟨q + 1, _, by omega, by go_num, rfl, by rw [E2.out]⟩
        case measure => simp [intOf]; omega
    · have E := Lib.hid (show bestOf xs x (ys.take q) = bestOf xs x ys by rw [List.take_of_length_le (by omega)])
      go_wp2
      go_ret
      exact ⟨ret_int E.out, (by repeat (first | assumption | exact Below.refl _ _ | (refine Below.trans ?_ (d1.mono (by first | omega | (simp; done) | (simp; omega)))) | (refine Below.setCell ?_ (by first | omega | (simp; done) | (simp; omega)) _) | apply below_drewN | apply Below.drew | (refine Below.alloc ?_ (by first | omega | (simp; done) | (simp; omega)) _)))⟩

theorem hasCell_t (r c : Int) (A : Option Addr) (n k : Nat) (x : Int) (w : World) (hn : n ≤ 1048576) (v : Bool) (hv : decide (inC n x) = v) :
    Calls Try.prog 72 #[.agg #[.int .i64 r, .int .i64 c, .slice A n k], .int .i64 x] w fun e w' => e = .returned (.bool v) ∧ Below w.heap.size w w' := by
  have hv' : decide (0 ≤ x ∧ x ≤ (n : Int) - 1) = v := hv
  have HV := Lib.hid hv'
  clear hv hv'
  go_enter Try.func72, Try.ntmps72
  go_wp2_with (go_at_call 51; refine (within_any _ _ _ _).mono ?_; rintro e w' ⟨rfl, rfl⟩; rw [HV.out])
  go_ret
  exact ⟨rfl, (by repeat (first | assumption | exact Below.refl _ _ | (refine Below.setCell ?_ (by first | omega | (simp; done) | (simp; omega)) _) | apply below_drewN | apply Below.drew | (refine Below.alloc ?_ (by first | omega | (simp; done) | (simp; omega)) _)))⟩

end Go.Proofs.Ytagnhlcgfcppjab
