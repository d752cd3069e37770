/- slices.Clone at []Section. -/
import Derived.Test.YtagnhlcgfcppjaaOwnR
import Derived.WalkSpells
namespace Go.Proofs.Ytagnhlcgfcppjaa
open Go.RowKit

theorem own_monoR {w : World} {base base' : Nat} {e : TypeId} {size : Nat} {v : Value} {n : Nat} {xs : List Value} (h : w.ownsRow base e size v n xs) (hb : base' ≤ base) : w.ownsRow base' e size v n xs := by
  refine ⟨h.1, ?_⟩
  rcases h.2 with h2 | ⟨g, cap, cur, h1, h2, h3⟩
  · exact .inl h2
  · exact .inr ⟨g, cap, cur, h1, Nat.le_trans hb h2, h3⟩

set_option maxHeartbeats 800000 in
theorem cloneS_t (ad : Addr) (n c : Nat) (xs : List RSection) (w : World) (hn : n ≤ 1048576) (ha : Rd_Section w w.heap.size (some ad) n xs) :
    Calls Try.prog 69 #[.slice (some ad) n c] w fun e w' => ∃ v, e = .returned v ∧ Below w.heap.size w w' ∧ w'.ownsRow w.heap.size 58 2 v n (csSection xs) := by
  have q1 : ∀ (w : World) (a : Option Addr) (n c n' c' : Nat), (binOp .eql 25 (.slice a n c) (.slice none n' c')).run Try.prog w = .ok (.bool a.isNone) w := fun w a n c n' c' => Lib.run_eql_slice_nil w _ _ a n c n' c' Try.underlying25
  have HA := Lib.hid ha
  have hz : w.heap.size ≤ (w.alloc (.cells #[] 58)).heap.size := by simp
  clear ha
  go_enter Try.func69, Try.ntmps69
  go_wp2_with (at_builtin; refine wplAppSection rfl _ _ rfl _ w.heap.size 0 n c w.heap.size _ _ [] xs rfl (ownsR_made rfl (Nat.le_refl _)) rfl (HA.out.below ((Below.refl _ _).alloc (Nat.le_refl _) _)) (by omega) hz ?_; intro v1 w1 hown1 hb1 hz1)
  go_ret
  exact ⟨_, rfl, (by repeat (first | assumption | exact Below.refl _ _ | (refine Below.trans ?_ (hb1.mono (by first | omega | (simp; done) | (simp; omega)))) | (refine Below.setCell ?_ (by first | omega | (simp; done) | (simp; omega)) _) | apply below_drewN | apply Below.drew | (refine Below.alloc ?_ (by first | omega | (simp; done) | (simp; omega)) _))), by simpa using hown1⟩

end Go.Proofs.Ytagnhlcgfcppjaa
