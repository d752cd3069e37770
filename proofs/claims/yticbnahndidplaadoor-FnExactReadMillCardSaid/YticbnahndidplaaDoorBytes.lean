/- Rows of bytes that a call makes: a byte set in front of a row; decimals. -/
import Derived.Test.YticbnahndidplaaDoorBase
import Derived.Lib.ItoaNum
namespace Go.Proofs.YticbnahndidplaaDoor
open Go.RowKit

def byteV (b : UInt8) : Value := .int .u8 (b.toNat : Int)
theorem info_u8 : (Tryd.prog.info? 5).map (fun i => (i.zero, i.size, i.bytes)) = some (some (.int .u8 0), 1, 1) := by kernel_rfl

theorem own_one (W : World) (base : Nat) (E : TypeId) (u : Value) (hb : base ≤ W.heap.size) : (W.alloc (.cells #[u] E)).ownsRow base E 1 (.slice (some ⟨W.heap.size, 0, none⟩) 1 1) 1 [u] :=
  ⟨rfl, .inr ⟨W.heap.size, 1, #[u], rfl, hb, heap_alloc_new W _, Nat.le_refl _, by simp [maxLen], rfl, rfl⟩⟩

/-- 'out = append([]byte{y}, out...)', out a row of the call's own that is not nil. -/
theorem wpl_pre {ops : Array Oper} {rest : List Oper} {o : Oper} {a : Act} {Q : Exit → Act → World → Prop} (hgd : o.guard = none) (s x : Operand)
    (ho : o.op = .call { callee := .builtin .append, args := #[s, x], argTypes := #[101, 101] }) (W : World) (base m : Nat) (v : Value) (xs : List UInt8) (y : UInt8) (q : Int) (hq : q = (y.toNat : Int))
    (hs : a.eval s = .slice (some ⟨W.heap.size, 0, none⟩) 1 1) (hown : W.ownsRow base 5 1 v m (xs.map byteV)) (hv : v ≠ .slice none 0 0) (hx : a.eval x = v) (hn : m ≤ 1048576) (hbase : base ≤ W.heap.size)
    (h : ∀ v' w', w'.ownsRow base 5 1 v' (m + 1) ((y :: xs).map byteV) → v' ≠ .slice none 0 0 → Below base W w' → W.heap.size ≤ w'.heap.size → wpList Tryd.prog ops Q rest (a.put o.dst v') w') :
    wpList Tryd.prog ops Q (o :: rest) a (W.alloc (.cells #[.int .u8 q] 5)) := by
  subst hq
  show wpList Tryd.prog ops Q (o :: rest) a (W.alloc (.cells #[byteV y] 5))
  obtain ⟨i0, hi, hz0, hz1, hz2⟩ := info_parts info_u8
  obtain ⟨g, cap, hvv, hg1, hg2⟩ : ∃ g cap, v = .slice (some ⟨g, 0, none⟩) m cap ∧ base ≤ g ∧ g < W.heap.size := by
    rcases hown.2 with ⟨h0, _⟩ | ⟨g, cap, cur, h1, h2, h3, _⟩
    · exact absurd h0 hv
    · refine ⟨g, cap, h1, h2, ?_⟩
      subst h1
      exact (hown.lt g rfl).2
  have hown2 := hown.alloc (.cells #[byteV y] 5)
  refine wpList_append_own (P := Tryd.prog) _ hgd s x 101 ho base 5 i0 (.int .u8 0) 1 1 Tryd.underlying101 hi hz0 hz1 hz2 rfl (by decide) _ 1 [byteV y] hs (own_one W base 5 (byteV y) hbase) ⟨g, 0, none⟩ m cap (xs.map byteV) (by rw [hx, hvv]) (by simpa using hown.1) ?_ ?_ (by simp only [maxLen]; omega) (by omega) (by simp; omega) ?_
  · intro j u hu
    exact hown2.cells (by rw [hvv]; rfl) j u hu
  · intro u hu
    simp only [List.mem_map] at hu
    obtain ⟨b, _, rfl⟩ := hu
    rfl
  · intro v' w' h1 h2 h3
    have hb : Below base (W.alloc (.cells #[byteV y] 5)) w' := (Below.refl _ _).grown h2 (by simp; omega) (fun k hk => by
      have : W.heap.size = k := by injection hk
      omega)
    have hz := h2.size
    simp at hz
    have e : 1 + m = m + 1 := by omega
    rw [e] at h1
    exact h v' w' h1 (fun hn => by have := (h3.1 hn).1; simp at this) (((Below.refl _ _).alloc hbase _).trans hb) (by omega)

/-- The digits of a number, none for 0. -/
def digs (u : Nat) : List UInt8 := if u = 0 then [] else Lib.decDigits u
theorem digs_step (u : Nat) (h : u ≠ 0) : digs u = digs (u / 10) ++ [UInt8.ofNat (48 + u % 10)] := by
  unfold digs
  rw [if_neg h]
  rw [Lib.decDigits]
  by_cases h10 : u < 10
  · rw [dif_pos h10, if_pos (by omega), List.nil_append, Nat.mod_eq_of_lt h10]
  · rw [dif_neg h10, if_neg (by omega)]

theorem digit_byte (m : Nat) : ((UInt8.ofNat (48 + m % 10)).toNat : Int) = 48 + ((m % 10 : Nat) : Int) := by
  rw [UInt8.toNat_ofNat']
  omega

theorem dec_len (c : Nat) : ∀ u : Nat, u < 10 ^ (c + 1) → (Lib.decDigits u).length ≤ c + 1 := by
  induction c with
  | zero =>
    intro u hu
    rw [Lib.decDigits, dif_pos (by omega)]
    simp
  | succ c ih =>
    intro u hu
    rw [Lib.decDigits]
    by_cases h : u < 10
    · rw [dif_pos h]
      simp
    · rw [dif_neg h, List.length_append]
      have h1 : u / 10 < 10 ^ (c + 1) := by
        apply Nat.div_lt_of_lt_mul
        rw [Nat.pow_succ] at hu
        omega
      have := ih _ h1
      simp
      omega

theorem digs_len (u : Nat) (h : u ≤ 9223372036854775808) : (digs u).length ≤ 20 := by
  unfold digs
  split
  · simp
  · exact dec_len 19 u (by omega)

theorem own_form {w : World} {base : Nat} {e : TypeId} {size : Nat} {v : Value} {n : Nat} {xs : List Value} (h : w.ownsRow base e size v n xs) (hne : v ≠ .slice none 0 0) : ∃ g cap, v = .slice (some ⟨g, 0, none⟩) n cap := by
  rcases h.2 with ⟨h1, _⟩ | ⟨g, cap, cur, h1, _⟩
  · exact absurd h1 hne
  · exact ⟨g, cap, h1⟩


end Go.Proofs.YticbnahndidplaaDoor
