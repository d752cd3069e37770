/- The cells next to a cell (of the model, of the program). -/
import Derived.Test.YthnioohiceohkaaLandB
namespace Go.Proofs.Ythnioohiceohkaa
open Go.RowKit

def near (r c x : Int) : List Int := (((if 0 < x / c then [x - c] else []) ++ (if 0 < x % c then [x - 1] else [])) ++ (if x % c < c - 1 then [x + 1] else [])) ++ (if x / c < r - 1 then [x + c] else [])
theorem near_len (r c x : Int) : (near r c x).length ≤ 4 := by
  unfold near
  simp only [List.length_append]
  repeat' split
  all_goals simp
theorem div_bd {r c x n : Int} (hc1 : 1 ≤ c) (hx0 : 0 ≤ x) (hx : x < n) (hn : n = r * c) : 0 ≤ x / c ∧ x / c ≤ x ∧ 0 ≤ x % c ∧ x % c < c ∧ x = c * (x / c) + x % c ∧ x / c < r := by
  have h1 := Int.mul_ediv_add_emod x c
  have h2 := Int.emod_nonneg x (show c ≠ 0 by omega)
  have h3 := Int.emod_lt_of_pos x (show 0 < c by omega)
  have h4 := Int.ediv_nonneg hx0 (show 0 ≤ c by omega)
  refine ⟨h4, Int.ediv_le_self _ hx0, h2, h3, h1.symm, ?_⟩
  exact Int.ediv_lt_of_lt_mul (by omega) (by omega)
theorem near_mem {r c x n : Int} (hr1 : 1 ≤ r) (hc1 : 1 ≤ c) (hx0 : 0 ≤ x) (hx : x < n) (hn : n = r * c) : ∀ y ∈ near r c x, 0 ≤ y ∧ y < n := by
  obtain ⟨d1, d2, d3, d4, d5, d6⟩ := div_bd hc1 hx0 hx hn
  intro y hy
  unfold near at hy
  simp only [List.mem_append] at hy
  have e2 : c * (x / c + 1) = c * (x / c) + c := by rw [Int.mul_add, Int.mul_one]
  rcases hy with ((hy | hy) | hy) | hy
  · split at hy
    · rename_i h
      simp at hy
      have e1 : c * 1 ≤ c * (x / c) := Int.mul_le_mul_of_nonneg_left (by omega) (by omega)
      omega
    · simp at hy
  · split at hy
    · simp at hy
      have e1 : 0 ≤ c * (x / c) := Int.mul_nonneg (by omega) d1
      omega
    · simp at hy
  · split at hy
    · rename_i h
      simp at hy
      have e1 : c * (x / c + 1) ≤ c * r := Int.mul_le_mul_of_nonneg_left (by omega) (by omega)
      have e3 : c * r = n := by rw [hn, Int.mul_comm]
      omega
    · simp at hy
  · split at hy
    · rename_i h
      simp at hy
      have e1 : c * (x / c + 1 + 1) ≤ c * r := Int.mul_le_mul_of_nonneg_left (by omega) (by omega)
      have e4 : c * (x / c + 1 + 1) = c * (x / c) + c + c := by rw [Int.mul_add, e2, Int.mul_one]
      have e3 : c * r = n := by rw [hn, Int.mul_comm]
      omega
    · simp at hy

theorem wpl_app1k {ops : Array Oper} {rest : List Oper} {o : Oper} {a : Act} {Q : Exit → Act → World → Prop} (hgd : o.guard = none) (s x : Operand)
    (ho : o.op = .call { callee := .builtin .append, args := #[s, x], argTypes := #[22, 22] }) (W : World) (k : Nat) (hk : W.heap.size = k) (base n : Nat) (v : Value) (xs : List Int) (y : Int)
    (hs : a.eval s = v) (hown : W.ownsRow base 2 1 v n (xs.map (Value.int .i64))) (hx : a.eval x = .slice (some ⟨k, 0, none⟩) 1 1) (hn : n ≤ 1048576) (hbase : base ≤ W.heap.size)
    (h : ∀ v' w', w'.ownsRow base 2 1 v' (n + 1) ((xs ++ [y]).map (Value.int .i64)) → Below base W w' → W.heap.size ≤ w'.heap.size → wpList Try.prog ops Q rest (a.put o.dst v') w') :
    wpList Try.prog ops Q (o :: rest) a (W.alloc (.cells #[.int .i64 y] 2)) := by
  subst hk
  exact wpl_app1 hgd s x ho W base n v xs y hs hown hx hn hbase h

theorem ret_sl {B : Option Addr} {n m d : Nat} (h : n = m) : Ending.returned (.slice B n d) = .returned (.slice B m d) := by rw [h]
theorem near_fin {w : World} {lo n : Nat} {B : Option Addr} {xs : List Int} {r c x : Int} (h : Wr w lo B n xs) (e : xs = near r c x) : n = (near r c x).length ∧ Wr w lo B (near r c x).length (near r c x) := by
  subst e
  have h1 := h.1
  subst h1
  exact ⟨rfl, h⟩

set_option maxRecDepth 100000 in
set_option maxHeartbeats 6400000 in
theorem l03Near_t (b : Nat) (r c : Int) (A : Option Addr) (n k : Nat) (x : Int) (w : World) (hb : b < w.heap.size) (hat : LandAt w b r c A n k) (hr : 1 ≤ r ∧ r ≤ 12) (hc : 1 ≤ c ∧ c ≤ 12) (hx0 : 0 ≤ x) (hx : x < (n : Int)) (hn : (n : Int) = r * c) :
    Calls Try.prog 60 #[.pointer (some ⟨b, 0, none⟩), .int .i64 x] w fun e w' => ∃ B d, e = .returned (.slice B (near r c x).length d) ∧ Below w.heap.size w w' ∧ Wr w' w.heap.size B (near r c x).length (near r c x) := by
  obtain ⟨d1, d2, d3, d4, -, d6⟩ := div_bd hc.1 hx0 hx hn
  have hm := mul_bd hr hc
  have hx144 : x < 144 := by omega
  obtain ⟨hr1, hr2⟩ := hr
  obtain ⟨hc1, hc2⟩ := hc
  have hat' := hat
  obtain ⟨y0, y1, y2⟩ := hat'
  have HN := Lib.hid hn
  clear hn
  go_enter Try.func60, Try.ntmps60
  go_wp2_with (first | (at_builtin; refine wpl_app1 rfl _ _ rfl _ w.heap.size _ _ _ _ rfl (by assumption) rfl (by omega) (by omega) ?_; intro v1 w1 hown1 hb1 hz1; have hat := hat.below hb1 hb; have hB : Below w.heap.size w w1 := hB.trans hb1; have hz : w.heap.size + 1 ≤ w1.heap.size := (by omega); clear hz1 hb1; have hat' := hat; obtain ⟨y0, y1, y2⟩ := hat') | (at_builtin; refine wpl_app1k rfl _ _ rfl _ (w.heap.size + 1) (by simp) w.heap.size 0 _ [] _ rfl (owns_made rfl (Nat.le_refl _)) rfl (by omega) (by simp) ?_; intro v1 w1 hown1 hb1 hz1; have hat := (hat.below (B := w.heap.size) ((Below.refl _ _).alloc (Nat.le_refl _) _) hb).below hb1 hb; have hB : Below w.heap.size w w1 := (by repeat (first | assumption | exact Below.refl _ _ | (refine Below.trans ?_ (hb1.mono (by first | omega | (simp; done) | (simp; omega)))) | (refine Below.setCell ?_ (by first | omega | (simp; done) | (simp; omega)) _) | apply below_drewN | apply Below.drew | (refine Below.alloc ?_ (by first | omega | (simp; done) | (simp; omega)) _))); have hz : w.heap.size + 1 ≤ w1.heap.size := (by simpa using hz1); clear hz1 hb1; have hat' := hat; obtain ⟨y0, y1, y2⟩ := hat'))
  all_goals
    first
    | (obtain ⟨B, d, rfl, hw⟩ := own_wr hown1
       obtain ⟨hn2, hw2⟩ := near_fin (r := r) (c := c) (x := x) hw (by unfold near; (repeat' split) <;> first | rfl | (exfalso; omega))
       go_ret
       exact ⟨B, d, ret_sl hn2, hB, hw2⟩)
    | (have e0 : near r c x = [] := (by unfold near; (repeat' split) <;> first | rfl | (exfalso; omega))
       rw [e0]
       go_ret
       exact ⟨_, _, rfl, (by repeat (first | assumption | exact Below.refl _ _ | (refine Below.setCell ?_ (by first | omega | (simp; done) | (simp; omega)) _) | apply below_drewN | apply Below.drew | (refine Below.alloc ?_ (by first | omega | (simp; done) | (simp; omega)) _))), rfl, fun h => absurd h (by simp)⟩)

set_option maxRecDepth 100000 in
set_option maxHeartbeats 6400000 in
theorem nextTo_t (r c : Int) (A : Option Addr) (n k : Nat) (x : Int) (w : World) (hr : 1 ≤ r ∧ r ≤ 12) (hc : 1 ≤ c ∧ c ≤ 12) (hx0 : 0 ≤ x) (hx : x < (n : Int)) (hn : (n : Int) = r * c) :
    Calls Try.prog 71 #[.agg #[.int .i64 r, .int .i64 c, .slice A n k], .int .i64 x] w fun e w' => ∃ B d, e = .returned (.slice B (near r c x).length d) ∧ Below w.heap.size w w' ∧ Wr w' w.heap.size B (near r c x).length (near r c x) := by
  obtain ⟨d1, d2, d3, d4, -, d6⟩ := div_bd hc.1 hx0 hx hn
  have hm := mul_bd hr hc
  have hx144 : x < 144 := by omega
  obtain ⟨hr1, hr2⟩ := hr
  obtain ⟨hc1, hc2⟩ := hc
  have HN := Lib.hid hn
  clear hn
  have hb : w.heap.size < w.heap.size + 1 := by omega
  go_enter Try.func71, Try.ntmps71
  go_wp2
  go_region
  go_wp2_with (first | (at_builtin; refine wpl_app1 rfl _ _ rfl _ (w.heap.size + 1) _ _ _ _ rfl (by assumption) rfl (by omega) (by omega) ?_; intro v1 w1 hown1 hb1 hz1; have hat := hat.below hb1 hb; have hB : Below w.heap.size w w1 := hB.trans (hb1.mono (by omega)); have hz : w.heap.size + 1 ≤ w1.heap.size := (by omega); clear hz1 hb1; have hat' := hat; obtain ⟨y0, y1, y2⟩ := hat') | (at_builtin; refine wpl_app1k rfl _ _ rfl (w.alloc (.cells #[.int .i64 r, .int .i64 c, .slice A n k] 28)).drew (w.heap.size + 1) (show (w.alloc (.cells #[.int .i64 r, .int .i64 c, .slice A n k] 28)).heap.size = w.heap.size + 1 by simp) (w.heap.size + 1) 0 _ [] _ rfl (World.ownsRow_nil _ _ _ _) rfl (by omega) (show w.heap.size + 1 ≤ (w.alloc (.cells #[.int .i64 r, .int .i64 c, .slice A n k] 28)).heap.size by simp) ?_; intro v1 w1 hown1 hb1 hz1; have hat : LandAt w1 w.heap.size r c A n k := LandAt.below (w := w.alloc (.cells #[.int .i64 r, .int .i64 c, .slice A n k] 28)) (B := w.heap.size + 1) ⟨by simp, by simp, by simp⟩ (by repeat (first | assumption | exact Below.refl _ _ | (refine Below.trans ?_ (hb1.mono (by first | omega | (simp; done) | (simp; omega)))) | (refine Below.setCell ?_ (by first | omega | (simp; done) | (simp; omega)) _) | apply below_drewN | apply Below.drew | (refine Below.alloc ?_ (by first | omega | (simp; done) | (simp; omega)) _))) (by omega); have hB : Below w.heap.size w w1 := (by repeat (first | assumption | exact Below.refl _ _ | (refine Below.trans ?_ (hb1.mono (by first | omega | (simp; done) | (simp; omega)))) | (refine Below.setCell ?_ (by first | omega | (simp; done) | (simp; omega)) _) | apply below_drewN | apply Below.drew | (refine Below.alloc ?_ (by first | omega | (simp; done) | (simp; omega)) _))); have hz : w.heap.size + 1 ≤ w1.heap.size := Nat.le_trans (show w.heap.size + 1 ≤ (w.alloc (.cells #[.int .i64 r, .int .i64 c, .slice A n k] 28)).heap.size by simp) hz1; clear hz1 hb1; have hat' := hat; obtain ⟨y0, y1, y2⟩ := hat'))
  all_goals
    first
    | (obtain ⟨B, d, rfl, hw⟩ := own_wr hown1
       obtain ⟨hn2, hw2⟩ := near_fin (r := r) (c := c) (x := x) hw (by unfold near; (repeat' split) <;> first | rfl | (exfalso; omega))
       go_ret
       exact ⟨B, d, ret_sl hn2, hB, hw2.lower (by omega)⟩)
    | (have e0 : near r c x = [] := (by unfold near; (repeat' split) <;> first | rfl | (exfalso; omega))
       rw [e0]
       go_ret
       exact ⟨_, _, rfl, (by repeat (first | assumption | exact Below.refl _ _ | (refine Below.setCell ?_ (by first | omega | (simp; done) | (simp; omega)) _) | apply below_drewN | apply Below.drew | (refine Below.alloc ?_ (by first | omega | (simp; done) | (simp; omega)) _))), rfl, fun h => absurd h (by simp)⟩)

end Go.Proofs.Ythnioohiceohkaa
