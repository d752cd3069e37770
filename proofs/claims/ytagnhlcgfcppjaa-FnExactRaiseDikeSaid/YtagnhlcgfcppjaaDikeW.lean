/- Dikes: the sections lower than a height; the clay: of the model and of the program. -/
import Derived.Test.YtagnhlcgfcppjaaDikeL
import Derived.Test.YtagnhlcgfcppjaaClos
import Derived.IntWalk
namespace Go.Proofs.Ytagnhlcgfcppjaa
open Go.RowKit

/-- the sections whose crest is below a height -/
def lwN (xs : List RSection) (h : Int) : Nat → List Int
  | 0 => []
  | k + 1 => lwN xs h k ++ if (xs.getD k zSection).f1 < h then [(k : Int)] else []
theorem wsN_lw (xs : List RSection) (y z : Int) (k : Nat) : wsN xs y z k = lwN xs (y + z) k := by
  induction k with
  | zero => rfl
  | succ k ih =>
    simp only [wsN, lwN]
    rw [ih]
    by_cases c : (xs.getD k zSection).f1 < y + z
    · rw [if_pos c, if_pos (by omega)]
    · rw [if_neg c, if_neg (by omega)]
theorem lwN_yes {xs : List RSection} {h : Int} {k : Nat} (c : (xs.getD k zSection).f1 < h) : lwN xs h (k + 1) = lwN xs h k ++ [(k : Int)] := by simp only [lwN]; rw [if_pos c]
theorem lwN_no {xs : List RSection} {h : Int} {k : Nat} (c : ¬ (xs.getD k zSection).f1 < h) : lwN xs h (k + 1) = lwN xs h k := by simp only [lwN]; rw [if_neg c, List.append_nil]
theorem lwN_len (xs : List RSection) (h : Int) (k : Nat) : (lwN xs h k).length ≤ k := by
  induction k with
  | zero => simp [lwN]
  | succ k ih => simp only [lwN]; split <;> simp <;> omega
theorem wsN_yes {xs : List RSection} {y z : Int} {k : Nat} (c : (xs.getD k zSection).f1 - y < z) : wsN xs y z (k + 1) = wsN xs y z k ++ [(k : Int)] := by simp only [wsN]; rw [if_pos c]
theorem wsN_no {xs : List RSection} {y z : Int} {k : Nat} (c : ¬ (xs.getD k zSection).f1 - y < z) : wsN xs y z (k + 1) = wsN xs y z k := by simp only [wsN]; rw [if_neg c, List.append_nil]

theorem wpl_app1d {ops : Array Oper} {rest : List Oper} {o : Oper} {a : Act} {Q : Exit → Act → World → Prop} (hgd : o.guard = none) (s x : Operand)
    (ho : o.op = .call { callee := .builtin .append, args := #[s, x], argTypes := #[33, 33] }) (W : World) (k : Nat) (hk : W.heap.size = k) (base n : Nat) (v : Value) (xs : List Int) (y : Int)
    (hs : a.eval s = v) (hown : W.ownsRow base 2 1 v n (xs.map (Value.int .i64))) (hx : a.eval x = .slice (some ⟨k, 0, none⟩) 1 1) (hn : n ≤ 1048576) (hbase : base ≤ W.heap.size)
    (h : ∀ v' w', w'.ownsRow base 2 1 v' (n + 1) ((xs ++ [y]).map (Value.int .i64)) → Below base W w' → W.heap.size ≤ w'.heap.size → wpList Try.prog ops Q rest (a.put o.dst v') w') :
    wpList Try.prog ops Q (o :: rest) a (W.alloc (.cells #[.int .i64 y] 2)) := by
  subst hk
  exact wpl_app1 hgd s x ho W base n v xs y hs hown hx hn hbase h

theorem lw_ix (xs : List RSection) (h : Int) (n : Nat) : lwN xs h n = ixN (fun k => decide ((xs.getD k zSection).f1 < h)) n := by
  induction n with
  | zero => rfl
  | succ n ih => simp only [lwN, ixN]; rw [ih]; simp

set_option maxHeartbeats 1600000 in
theorem lowerThan_t (A : Option Addr) (n c : Nat) (xs : List RSection) (h : Int) (w : World) (hn : n ≤ 1048576) (ha : Rd_Section w w.heap.size A n xs) (hn2 : n ≤ 1000000) :
    Calls Try.prog 66 #[.slice A n c, .int .i64 h] w fun e w' => ∃ B d, e = .returned (.slice B (lwN xs h n).length d) ∧ Below w.heap.size w w' ∧ Wr w' w.heap.size B (lwN xs h n).length (lwN xs h n) := by
  rw [lw_ix]
  have HA := Lib.hid ha
  clear ha
  go_enter Try.func66, Try.ntmps66
  go_wp2_with (first | (go_at_call 88; refine (ix_lw (.pointer (some ⟨w.heap.size, 0, none⟩)) (.pointer (some ⟨w.heap.size + 1, 0, none⟩)) n (fun k => decide ((xs.getD k zSection).f1 < h)) _ hn2 ?hcl).mono ?_; (case hcl => exact fun i k W v hi hk hb hv => (by
      obtain ⟨ab, o, rfl, hbB, hc⟩ := HA.out.at (by omega)
      have dW : Below w.heap.size w W := (((Below.refl w.heap.size w).alloc (Nat.le_refl _) _).alloc (by simp) _).trans (hb.mono (by simp; omega))
      exact lwCl_t _ _ k n c ab o i h _ W hi hk hn ((hb.cell (p := ⟨w.heap.size, 0, none⟩) (by simp; omega)).trans (cell_1of2 _ _ _ _)) ((hb.cell (p := ⟨w.heap.size + 1, 0, none⟩) (by simp)).trans (cell_2of2 _ _ _ _)) ((dW.cell (p := ⟨ab, o + k * 2 + 1, none⟩) hbB).trans (hc k hk).2) v hv)); rintro e3 W3 ⟨B, d, rfl, b3, hw⟩; have HW := Lib.hid (hw.lower (show w.heap.size ≤ _ by simp; omega)); have d3 : Below w.heap.size w W3 := (by repeat (first | assumption | exact Below.refl _ _ | (refine Below.trans ?_ (b3.mono (by first | omega | (simp; done) | (simp; omega)))) | (refine Below.setCell ?_ (by first | omega | (simp; done) | (simp; omega)) _) | apply below_drewN | apply Below.drew | (refine Below.alloc ?_ (by first | omega | (simp; done) | (simp; omega)) _))); clear hw b3))
  go_ret
  exact ⟨B, d, rfl, d3, HW.out⟩

theorem maxD_t (a b : Int) (w : World) : Calls Try.prog 67 #[.int .i64 a, .int .i64 b] w fun e w' => e = .returned (.int .i64 (max a b)) ∧ w = w' := by
  by_cases h : b < a
  · go_enter Try.func67, Try.ntmps67
    go_wp2
    go_ret
    exact ⟨ret_int (by omega), rfl⟩
  · go_enter Try.func67, Try.ntmps67
    go_wp2
    go_ret
    exact ⟨ret_int (by omega), rfl⟩

theorem clN_step (xs : List RSection) (y : Int) (k : Nat) : clN xs y (k + 1) = clN xs y k + (xs.getD k zSection).f0 * max 0 (y - (xs.getD k zSection).f1) := rfl

set_option maxHeartbeats 1600000 in
theorem volumeI_t (A : Option Addr) (n c : Nat) (xs : List RSection) (y : Int) (w : World) (hn : n ≤ 1048576) (ha : Rd_Section w w.heap.size A n xs) (h : DkOk n xs) (hy : -2000 ≤ y ∧ y ≤ 2001) :
    Calls Try.prog 70 #[.slice A n c, .int .i64 y] w fun e w' => e = .returned (.int .i64 (clay xs n y)) ∧ Below w.heap.size w w' := by
  have HA := Lib.hid ha
  have HB := Lib.hid (fun k hk => clN_bd h hy k hk)
  have HK := Lib.hid h.1
  have h30 := h.2.2
  have HE := Lib.hid (show clay xs n y = (8 * clN xs y n + 99) / 100 from rfl)
  clear ha h
  obtain ⟨y1, y2⟩ := hy
  go_enter Try.func70, Try.ntmps70
  go_wp2
  go_loopw [5, 7, 10] (fun s _ i wr => ∃ k : Nat, k ≤ n ∧ i = .int .i64 (k : Int) ∧ s = .int .i64 (clN xs y k) ∧ Below w.heap.size w wr) (fun _ _ i _ => n - (intOf i).toNat)
  case atStart => exact ⟨0, by omega, rfl, rfl, Below.refl _ _⟩
  case round =>
    obtain ⟨k, hk, rfl, rfl, hb⟩ := hrel
    have hsz := hb.size
    obtain ⟨u1, u2⟩ := HB.out k hk
    by_cases hlt : k < n
    · obtain ⟨ab, o, rfl, hbB, hc⟩ := (HA.out.below hb).at (by omega)
      have p := hc k hlt
      clear hc
      have HS := Lib.hid (clN_step xs y k)
      obtain ⟨v1, v2⟩ := HB.out (k + 1) (by omega)
      rw [HS.out] at v1 v2
      have hd := HK.out k hlt
      obtain ⟨x, hx⟩ := getZs xs k
      rw [← hx] at p HS hd v1 v2
      clear hx
      obtain ⟨x0, x1⟩ := x
      obtain ⟨p0, p1⟩ := p
      obtain ⟨d0, d1, d2, d3⟩ := hd
      simp only at p0 p1 HS d0 d1 d2 d3 v1 v2
      obtain ⟨s, hs⟩ : ∃ s, s = clN xs y k := ⟨_, rfl⟩
      rw [← hs] at u1 u2 HS v1 v2 ⊢
      clear hs
      have q1 : 0 ≤ x0 * max 0 (y - x1) := Int.mul_nonneg (by omega) (by omega)
      have q2 : x0 * max 0 (y - x1) ≤ 10000 * 4001 := Int.mul_le_mul d1 (by omega) (by omega) (by omega)
      have f1 := IntWalk.i64_in (y - x1) (by omega)
      have e5 := Lib.hid (show wrap64 (s + wrap64 (x0 * max 0 (y - x1))) = s + x0 * max 0 (y - x1) by rw [IntWalk.wrap64_in (x0 * max 0 (y - x1)) (by omega)]; exact IntWalk.wrap64_in _ (by omega))
      clear q1 q2 v1 v2
      go_wp2
      go_roundw
      case rel => exact ⟨k + 1, by omega, by go_num, by rw [HS.out, ← e5.out, show max 0 (y - x1) = (if x1 < y then y - x1 else 0) by split <;> omega], (by repeat (first | assumption | exact Below.refl _ _ | (refine Below.setCell ?_ (by first | omega | (simp; done) | (simp; omega)) _) | apply below_drewN | apply Below.drew | (refine Below.alloc ?_ (by first | omega | (simp; done) | (simp; omega)) _)))⟩
      case measure => simp [intOf]; omega
    · obtain rfl : k = n := by omega
      generalize clN xs y k = s at *
      go_wp2
      go_ret
      exact ⟨ret_int (by rw [HE.out]), (by repeat (first | assumption | exact Below.refl _ _ | (refine Below.setCell ?_ (by first | omega | (simp; done) | (simp; omega)) _) | apply below_drewN | apply Below.drew | (refine Below.alloc ?_ (by first | omega | (simp; done) | (simp; omega)) _)))⟩

set_option maxHeartbeats 1600000 in
theorem clayS_t (A : Option Addr) (n c : Nat) (xs : List RSection) (y : Int) (w : World) (hn : n ≤ 1048576) (ha : Rd_Section w w.heap.size A n xs) (h : DkOk n xs) (hy : -2000 ≤ y ∧ y ≤ 2001) :
    Calls Try.prog 68 #[.slice A n c, .int .i64 y] w fun e w' => e = .returned (.int .i64 (clay xs n y)) ∧ Below w.heap.size w w' := by
  have HA := Lib.hid ha
  have HB := Lib.hid (fun k hk => clN_bd h hy k hk)
  have HK := Lib.hid h.1
  have h30 := h.2.2
  have HE := Lib.hid (show clay xs n y = (8 * clN xs y n + 99) / 100 from rfl)
  clear ha h
  obtain ⟨y1, y2⟩ := hy
  go_enter Try.func68, Try.ntmps68
  go_wp2
  go_loopw [5, 6] (fun s i wr => ∃ k : Nat, k ≤ n ∧ i = .int .i64 (k : Int) ∧ s = .int .i64 (clN xs y k) ∧ Below w.heap.size w wr) (fun _ i _ => n - (intOf i).toNat)
  case atStart => exact ⟨0, by omega, rfl, rfl, Below.refl _ _⟩
  case round =>
    obtain ⟨k, hk, rfl, rfl, hb⟩ := hrel
    have hsz := hb.size
    obtain ⟨u1, u2⟩ := HB.out k hk
    by_cases hlt : k < n
    · obtain ⟨ab, o, rfl, hbB, hc⟩ := (HA.out.below hb).at (by omega)
      have p := hc k hlt
      clear hc
      have HS := Lib.hid (clN_step xs y k)
      have hd := HK.out k hlt
      obtain ⟨x, hx⟩ := getZs xs k
      rw [← hx] at p HS hd
      clear hx
      obtain ⟨x0, x1⟩ := x
      obtain ⟨p0, p1⟩ := p
      obtain ⟨d0, d1, d2, d3⟩ := hd
      simp only at p0 p1 HS d0 d1 d2 d3
      obtain ⟨s, hs⟩ : ∃ s, s = clN xs y k := ⟨_, rfl⟩
      rw [← hs] at u1 u2 HS ⊢
      clear hs
      have q1 : 0 ≤ x0 * max 0 (y - x1) := Int.mul_nonneg (by omega) (by omega)
      have q2 : x0 * max 0 (y - x1) ≤ 10000 * 4001 := Int.mul_le_mul d1 (by omega) (by omega) (by omega)
      have f1 := IntWalk.i64_in (y - x1) (by omega)
      have f2 := IntWalk.i64_in (x0 * max 0 (y - x1)) (by omega)
      have f3 := IntWalk.i64_in (s + x0 * max 0 (y - x1)) (by omega)
      clear q1 q2
      go_wp2_with fail
      go_quiet ((go_at_call 67; exact Calls.quiet_of_same ((maxD_t _ _ _).mono fun _ _ h => ⟨h.1, h.2.symm⟩)))
      go_wp2
      go_roundw
      case rel => exact ⟨k + 1, by omega, by go_num, by rw [HS.out], (by repeat (first | assumption | exact Below.refl _ _ | (refine Below.setCell ?_ (by first | omega | (simp; done) | (simp; omega)) _) | apply below_drewN | apply Below.drew | (refine Below.alloc ?_ (by first | omega | (simp; done) | (simp; omega)) _)))⟩
      case measure => simp [intOf]; omega
    · obtain rfl : k = n := by omega
      generalize clN xs y k = s at *
      go_wp2
      go_ret
      exact ⟨ret_int (by rw [HE.out]), (by repeat (first | assumption | exact Below.refl _ _ | (refine Below.setCell ?_ (by first | omega | (simp; done) | (simp; omega)) _) | apply below_drewN | apply Below.drew | (refine Below.alloc ?_ (by first | omega | (simp; done) | (simp; omega)) _)))⟩

end Go.Proofs.Ytagnhlcgfcppjaa
