/- CodeName, both sides, by contract; equal rows of texts (f6texts). -/
import Derived.Test.YtohfboelgocpdaaDoorIn
import Derived.Test.YtohfboelgocpdaaDoorLaid
import Derived.Test.YtohfboelgocpdaaDoorStrs
namespace Go.Proofs.YtohfboelgocpdaaDoor
open Go.RowKit

def cn : Nat → List UInt8
  | 0 => [111, 107]
  | 1 => [105, 110, 118, 97, 108, 105, 100]
  | 2 => [114, 97, 110, 103, 101]
  | 3 => [110, 111, 116, 45, 102, 111, 117, 110, 100]
  | 4 => [101, 120, 105, 115, 116, 115]
  | 5 => [102, 117, 108, 108]
  | 6 => [115, 116, 97, 116, 101]
  | 7 => [115, 121, 110, 116, 97, 120]
  | 8 => [102, 111, 114, 109, 97, 116]
  | 9 => [99, 108, 97, 115, 104]
  | 10 => [102, 108, 111, 111, 100]
  | _ => []
def cnm (k : Int) : ByteArray := if 0 ≤ k ∧ k ≤ 10 then ⟨(cn k.toNat).toArray⟩ else ⟨#[]⟩
/-- the names lie where the variable is -/
def CodeTab (w : World) : Prop := ∀ i, i ≤ 10 → w.cell? ⟨0, i, none⟩ = some (.string ⟨(cn i).toArray⟩)
theorem CodeTab.below {w w' : World} (h : CodeTab w) (hb : Below w.heap.size w w') : CodeTab w' := fun i hi => (hb.cell (World.block_lt_of_cell? _ _ (h i hi))).trans (h i hi)
theorem codeTab_of_laid {w : World} {l : List (String × DataW Unit)} (h : laidMet Tryd.prog l w) (hm : ("loop.example/g01032/impl.codeNames", (Rows.laid_loop_example_g01032_impl_codeNames : DataW Unit)) ∈ l) : CodeTab w := by
  obtain ⟨ps, h, _⟩ := h
  obtain ⟨g0, t0, cs0, f0, p0, hg0, ht0, hv0, hd0⟩ := laid_at h _ _ hm
  obtain rfl := Option.some.inj ((show Tryd.prog.globalNamed "loop.example/g01032/impl.codeNames" = some 0 by kernel_rfl).symm.trans hg0)
  obtain rfl := Option.some.inj ((show (Tryd.prog.globals[0]?).map (·.type) = some 50 by kernel_rfl).symm.trans ht0)
  have key : ∀ (i : Nat) (l : List UInt8), (match (Rows.laid_loop_example_g01032_impl_codeNames : DataW Unit) with | .agg D => D[i]? | _ => none) = some (.lit (.string l)) → w.cell? ⟨0, i, none⟩ = some (.string ⟨l.toArray⟩) := by
    intro i l hl
    obtain ⟨c, m, qs, hc, hd⟩ := laid_arr Tryd.underlying50 (by kernel_rfl) (by kernel_rfl) hd0 i _ hl
    rw [World.var?_cell hg0 hv0 i, ← Array.getElem?_toList, hc, laid_string Tryd.underlying9 hd]
  intro i hi
  have hi' : i = 0 ∨ i = 1 ∨ i = 2 ∨ i = 3 ∨ i = 4 ∨ i = 5 ∨ i = 6 ∨ i = 7 ∨ i = 8 ∨ i = 9 ∨ i = 10 := by omega
  rcases hi' with rfl | rfl | rfl | rfl | rfl | rfl | rfl | rfl | rfl | rfl | rfl
  all_goals exact key _ _ rfl

set_option maxHeartbeats 1600000 in
theorem code_spec (k : Int) (w : World) (hk : -1 ≤ k ∧ k ≤ 12) :
    Calls Tryd.prog 20 #[.int .i64 k] w fun e w' => e = .returned (.string (cnm k)) ∧ Below w.heap.size w w' := by
  by_cases h : 0 ≤ k ∧ k ≤ 10
  · have h' : k = 0 ∨ k = 1 ∨ k = 2 ∨ k = 3 ∨ k = 4 ∨ k = 5 ∨ k = 6 ∨ k = 7 ∨ k = 8 ∨ k = 9 ∨ k = 10 := by omega
    clear h hk
    rcases h' with rfl | rfl | rfl | rfl | rfl | rfl | rfl | rfl | rfl | rfl | rfl
    all_goals
      go_enter Tryd.func20, Tryd.ntmps20
      go_wp2_with (first | (go_at_call 39; first | (refine (in_t _ _ _ _ (by omega)).mono ?_; rintro e w' ⟨rfl, rfl⟩) | (refine (in_f _ _ _ _ (by omega)).mono ?_; rintro e w' ⟨rfl, rfl⟩)))
      go_ret
      exact ⟨rfl, (by repeat (first | assumption | exact Below.refl _ _ | (refine Below.setCell ?_ (by first | omega | (simp; done) | (simp; omega)) _) | apply below_drewN | apply Below.drew | (refine Below.alloc ?_ (by first | omega | (simp; done) | (simp; omega)) _)))⟩
  · have e : cnm k = ⟨#[]⟩ := if_neg h
    rw [e]
    clear e
    go_enter Tryd.func20, Tryd.ntmps20
    go_wp2_with (first | (go_at_call 39; first | (refine (in_t _ _ _ _ (by omega)).mono ?_; rintro e w' ⟨rfl, rfl⟩) | (refine (in_f _ _ _ _ (by omega)).mono ?_; rintro e w' ⟨rfl, rfl⟩)))
    go_ret
    exact ⟨rfl, (by repeat (first | assumption | exact Below.refl _ _ | (refine Below.setCell ?_ (by first | omega | (simp; done) | (simp; omega)) _) | apply below_drewN | apply Below.drew | (refine Below.alloc ?_ (by first | omega | (simp; done) | (simp; omega)) _)))⟩

set_option maxHeartbeats 1600000 in
theorem code_impl (k : Int) (w : World) (hk : -1 ≤ k ∧ k ≤ 12) (hc : CodeTab w) :
    Calls Tryd.prog 19 #[.int .i64 k] w fun e w' => e = .returned (.string (cnm k)) ∧ Below w.heap.size w w' := by
  by_cases h : 0 ≤ k ∧ k ≤ 10
  · have h' : k = 0 ∨ k = 1 ∨ k = 2 ∨ k = 3 ∨ k = 4 ∨ k = 5 ∨ k = 6 ∨ k = 7 ∨ k = 8 ∨ k = 9 ∨ k = 10 := by omega
    have c0 := hc 0 (by omega)
    have c1 := hc 1 (by omega)
    have c2 := hc 2 (by omega)
    have c3 := hc 3 (by omega)
    have c4 := hc 4 (by omega)
    have c5 := hc 5 (by omega)
    have c6 := hc 6 (by omega)
    have c7 := hc 7 (by omega)
    have c8 := hc 8 (by omega)
    have c9 := hc 9 (by omega)
    have c10 := hc 10 (by omega)
    clear h hk hc
    simp only [cn] at c0 c1 c2 c3 c4 c5 c6 c7 c8 c9 c10
    rcases h' with rfl | rfl | rfl | rfl | rfl | rfl | rfl | rfl | rfl | rfl | rfl
    all_goals
      go_enter Tryd.func19, Tryd.ntmps19
      go_wp2_with (first | (go_at_call 34; first | (refine (within_t _ _ _ _ (by omega)).mono ?_; rintro e w' ⟨rfl, rfl⟩) | (refine (within_f _ _ _ _ (by omega)).mono ?_; rintro e w' ⟨rfl, rfl⟩)))
      go_ret
      exact ⟨rfl, (by repeat (first | assumption | exact Below.refl _ _ | (refine Below.setCell ?_ (by first | omega | (simp; done) | (simp; omega)) _) | apply below_drewN | apply Below.drew | (refine Below.alloc ?_ (by first | omega | (simp; done) | (simp; omega)) _)))⟩
  · have e : cnm k = ⟨#[]⟩ := if_neg h
    rw [e]
    clear e hc
    go_enter Tryd.func19, Tryd.ntmps19
    go_wp2_with (first | (go_at_call 34; first | (refine (within_t _ _ _ _ (by omega)).mono ?_; rintro e w' ⟨rfl, rfl⟩) | (refine (within_f _ _ _ _ (by omega)).mono ?_; rintro e w' ⟨rfl, rfl⟩)))
    go_ret
    exact ⟨rfl, (by repeat (first | assumption | exact Below.refl _ _ | (refine Below.setCell ?_ (by first | omega | (simp; done) | (simp; omega)) _) | apply below_drewN | apply Below.drew | (refine Below.alloc ?_ (by first | omega | (simp; done) | (simp; omega)) _)))⟩

set_option maxHeartbeats 1600000 in
theorem f6t_t (A : Option Addr) (n c : Nat) (B : Option Addr) (d : Nat) (xs : List ByteArray) (w : World) (hn : n ≤ 2097152) (ha : RdS w w.heap.size A n xs) (hb : RdS w w.heap.size B n xs) :
    Calls Tryd.prog 15 #[.slice A n c, .slice B n d] w fun e w' => e = .returned (.bool true) ∧ Below w.heap.size w w' := by
  have HA := Lib.hid ha
  have HB := Lib.hid hb
  clear ha hb
  go_enter Tryd.func15, Tryd.ntmps15
  go_wp2
  go_loopw [5] (fun i wr => ∃ k : Nat, k ≤ n ∧ i = .int .i64 (k : Int) ∧ Below w.heap.size w wr) (fun i _ => n - (intOf i).toNat)
  case atStart => exact ⟨0, by omega, rfl, Below.refl _ _⟩
  case round =>
    obtain ⟨k, hk, rfl, hb⟩ := hrel
    by_cases hlt : k < n
    · have hlt2 : (k : Int) < (n : Int) := by omega
      obtain ⟨b1, o1, rfl, _, h1⟩ := (HA.out.below hb).2 (by omega)
      obtain ⟨b2, o2, rfl, _, h2⟩ := (HB.out.below hb).2 (by omega)
      have c1 := h1 k hlt
      have c2 := h2 k hlt
      generalize xs.getD k ⟨#[]⟩ = y at c1 c2
      clear h1 h2
      go_wp2
      go_quiet (fail)
      go_wp2
      go_roundw
      case rel => exact ⟨k + 1, by omega, by go_num, below_drewN hb _⟩
      case measure => simp [intOf]; omega
    · obtain rfl : k = n := by omega
      go_wp2
      go_ret
      exact ⟨rfl, hb⟩

end Go.Proofs.YtohfboelgocpdaaDoor
