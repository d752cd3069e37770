/- Floods: the cells with a mark: closures and indicesWhere of the program, l11List of the model. -/
import Derived.Test.YtlkgbemlagfdjaaFloW
import Derived.Test.YtlkgbemlagfdjaaIx
namespace Go.Proofs.Ytlkgbemlagfdjaa
open Go.RowKit

set_option maxRecDepth 100000 in
set_option maxHeartbeats 3200000 in
theorem ix_fl (c0 : Value) (n : Nat) (p : Nat → Bool) (w : World) (hn : n ≤ 1000000)
    (hf : ∀ (i : Int) (h : Nat) (W : World) (v : Bool), i = (h : Int) → h < n → Below w.heap.size w W → v = p h → Calls Try.prog 85 #[.int .i64 i, c0] W fun e w' => e = .returned (.bool v) ∧ Below W.heap.size W w') :
    Calls Try.prog 84 #[.int .i64 (n : Int), .func (.func 85) #[] #[c0]] w fun e w' => ∃ B d, e = .returned (.slice B (ixN p n).length d) ∧ Below w.heap.size w w' ∧ Wr w' w.heap.size B (ixN p n).length (ixN p n) := by
  have HF := Lib.hid hf
  clear hf
  go_enter Try.func84, Try.ntmps84
  go_wp2
  go_loopw [5, 6, 8] (fun v _ i wr => ∃ k : Nat, k ≤ n ∧ i = .int .i64 (k : Int) ∧ Below w.heap.size w wr ∧ w.heap.size ≤ wr.heap.size ∧ wr.ownsRow w.heap.size 2 1 v (ixN p k).length ((ixN p k).map (Value.int .i64))) (fun _ _ i _ => n - (intOf i).toNat)
  case atStart => exact ⟨0, by omega, rfl, Below.refl _ _, Nat.le_refl _, World.ownsRow_nil _ _ _ _⟩
  case round =>
    obtain ⟨k, hk, rfl, hb, hz, hown⟩ := hrel
    have hll := ixN_len p k
    by_cases hlt : k < n
    · cases hp : p k with
      | true =>
        have HQ := Lib.hid hp.symm
        have HS := Lib.hid (ixN_yes hp)
        clear hp
        generalize ixN p k = L at *
        go_wp2_with (first | (go_at_call 85; refine (HF.out _ k _ true rfl hlt hb HQ.out).mono ?_; rintro e1 W1 ⟨rfl, b1⟩; have s1 := b1.size; have hown2 := owns_below hown b1) | (at_builtin; refine wpl_app1x rfl _ _ rfl _ _ rfl _ _ _ _ _ rfl (by exact hown2) rfl (by omega) (by omega) ?_; intro v1 w1 hown1 hb1 hz1))
        go_roundw
        case rel => exact ⟨k + 1, by omega, by go_num, (hb.trans (b1.mono hz)).trans hb1, by omega, by have h3 := hown1; rw [show L.length + 1 = (L ++ [(k : Int)]).length by simp] at h3; rw [HS.out]; exact h3⟩
        case measure => simp [intOf]; omega
      | false =>
        have HQ := Lib.hid hp.symm
        have HS := Lib.hid (ixN_no hp)
        clear hp
        generalize ixN p k = L at *
        go_wp2_with (first | (go_at_call 85; refine (HF.out _ k _ false rfl hlt hb HQ.out).mono ?_; rintro e1 W1 ⟨rfl, b1⟩; have s1 := b1.size; have hown2 := owns_below hown b1))
        go_roundw
        case rel => exact ⟨k + 1, by omega, by go_num, hb.trans (b1.mono hz), by omega, by rw [HS.out]; exact hown2⟩
        case measure => simp [intOf]; omega
    · obtain rfl : k = n := by omega
      obtain ⟨B, d, rfl, hw⟩ := own_wr hown
      go_wp2
      go_ret
      exact ⟨B, d, rfl, hb, hw⟩

set_option maxRecDepth 100000 in
set_option maxHeartbeats 3200000 in
theorem ix_sf (c0 : Value) (n : Nat) (p : Nat → Bool) (w : World) (hn : n ≤ 1000000)
    (hf : ∀ (i : Int) (h : Nat) (W : World) (v : Bool), i = (h : Int) → h < n → Below w.heap.size w W → v = p h → Calls Try.prog 86 #[.int .i64 i, c0] W fun e w' => e = .returned (.bool v) ∧ Below W.heap.size W w') :
    Calls Try.prog 84 #[.int .i64 (n : Int), .func (.func 86) #[] #[c0]] w fun e w' => ∃ B d, e = .returned (.slice B (ixN p n).length d) ∧ Below w.heap.size w w' ∧ Wr w' w.heap.size B (ixN p n).length (ixN p n) := by
  have HF := Lib.hid hf
  clear hf
  go_enter Try.func84, Try.ntmps84
  go_wp2
  go_loopw [5, 6, 8] (fun v _ i wr => ∃ k : Nat, k ≤ n ∧ i = .int .i64 (k : Int) ∧ Below w.heap.size w wr ∧ w.heap.size ≤ wr.heap.size ∧ wr.ownsRow w.heap.size 2 1 v (ixN p k).length ((ixN p k).map (Value.int .i64))) (fun _ _ i _ => n - (intOf i).toNat)
  case atStart => exact ⟨0, by omega, rfl, Below.refl _ _, Nat.le_refl _, World.ownsRow_nil _ _ _ _⟩
  case round =>
    obtain ⟨k, hk, rfl, hb, hz, hown⟩ := hrel
    have hll := ixN_len p k
    by_cases hlt : k < n
    · cases hp : p k with
      | true =>
        have HQ := Lib.hid hp.symm
        have HS := Lib.hid (ixN_yes hp)
        clear hp
        generalize ixN p k = L at *
        go_wp2_with (first | (go_at_call 86; refine (HF.out _ k _ true rfl hlt hb HQ.out).mono ?_; rintro e1 W1 ⟨rfl, b1⟩; have s1 := b1.size; have hown2 := owns_below hown b1) | (at_builtin; refine wpl_app1x rfl _ _ rfl _ _ rfl _ _ _ _ _ rfl (by exact hown2) rfl (by omega) (by omega) ?_; intro v1 w1 hown1 hb1 hz1))
        go_roundw
        case rel => exact ⟨k + 1, by omega, by go_num, (hb.trans (b1.mono hz)).trans hb1, by omega, by have h3 := hown1; rw [show L.length + 1 = (L ++ [(k : Int)]).length by simp] at h3; rw [HS.out]; exact h3⟩
        case measure => simp [intOf]; omega
      | false =>
        have HQ := Lib.hid hp.symm
        have HS := Lib.hid (ixN_no hp)
        clear hp
        generalize ixN p k = L at *
        go_wp2_with (first | (go_at_call 86; refine (HF.out _ k _ false rfl hlt hb HQ.out).mono ?_; rintro e1 W1 ⟨rfl, b1⟩; have s1 := b1.size; have hown2 := owns_below hown b1))
        go_roundw
        case rel => exact ⟨k + 1, by omega, by go_num, hb.trans (b1.mono hz), by omega, by rw [HS.out]; exact hown2⟩
        case measure => simp [intOf]; omega
    · obtain rfl : k = n := by omega
      obtain ⟨B, d, rfl, hw⟩ := own_wr hown
      go_wp2
      go_ret
      exact ⟨B, d, rfl, hb, hw⟩

theorem fl1_t (g k : Nat) (M : Nat → Bool) (w : World) (h : IsB w g M) (hk : k < 144) (v : Bool) (hv : v = M k) :
    Calls Try.prog 85 #[.int .i64 (k : Int), .pointer (some ⟨g, 0, none⟩)] w fun e w' => e = .returned (.bool v) ∧ w = w' := by
  have c1 := h.cell hk
  have hnot : ∀ (x : Bool) (w : World), (Op.unary .not (.bool x)).run Try.prog w = .ok (.bool (!x)) w := fun _ _ => rfl
  subst hv
  obtain ⟨q, hq⟩ : ∃ q, q = M k := ⟨_, rfl⟩
  rw [← hq] at c1 ⊢
  clear hq h
  go_enter Try.func85, Try.ntmps85
  go_wp2
  go_ret
  exact ⟨rfl, rfl⟩

theorem sf1_t (g k : Nat) (M : Nat → Bool) (w : World) (h : IsB w g M) (hk : k < 144) (v : Bool) (hv : v = !M k) :
    Calls Try.prog 86 #[.int .i64 (k : Int), .pointer (some ⟨g, 0, none⟩)] w fun e w' => e = .returned (.bool v) ∧ w = w' := by
  have c1 := h.cell hk
  have hnot : ∀ (x : Bool) (w : World), (Op.unary .not (.bool x)).run Try.prog w = .ok (.bool (!x)) w := fun _ _ => rfl
  subst hv
  obtain ⟨q, hq⟩ : ∃ q, q = M k := ⟨_, rfl⟩
  rw [← hq] at c1 ⊢
  clear hq h
  go_enter Try.func86, Try.ntmps86
  go_wp2
  go_ret
  exact ⟨rfl, rfl⟩

set_option maxRecDepth 100000 in
set_option maxHeartbeats 3200000 in
theorem l11List_t (g n d : Nat) (M : Nat → Bool) (want : Bool) (w : World) (hn : n ≤ 100000) (h : IsL w g n M) (L : List Int) (hL : L = ixN (fun k => M k == want) n) :
    Calls Try.prog 79 #[.slice (some ⟨g, 0, none⟩) n d, .bool want] w fun e w' => ∃ B d', e = .returned (.slice B L.length d') ∧ Below w.heap.size w w' ∧ Wr w' w.heap.size B L.length L := by
  obtain ⟨p, hp⟩ : ∃ p : Nat → Bool, p = fun k => M k == want := ⟨_, rfl⟩
  rw [← hp] at hL
  have HL := Lib.hid hL
  have HS := Lib.hid h
  have HP := Lib.hid (fun k => show p k = (M k == want) by rw [hp])
  have hg := h.1
  clear hL h hp
  go_enter Try.func79, Try.ntmps79
  go_wp2
  go_loopw [5, 6] (fun v i wr => ∃ k : Nat, k ≤ n ∧ i = .int .i64 (k : Int) ∧ Below w.heap.size w wr ∧ w.heap.size ≤ wr.heap.size ∧ wr.ownsRow w.heap.size 2 1 v (ixN p k).length ((ixN p k).map (Value.int .i64))) (fun _ i _ => n - (intOf i).toNat)
  case atStart => exact ⟨0, by omega, rfl, (by repeat (first | assumption | exact Below.refl _ _ | (refine Below.setCell ?_ (by first | omega | (simp; done) | (simp; omega)) _) | apply below_drewN | apply Below.drew | (refine Below.alloc ?_ (by first | omega | (simp; done) | (simp; omega)) _))), by simp, owns_made rfl (Nat.le_refl _)⟩
  case round =>
    obtain ⟨k, hk, rfl, hb, hz, hown⟩ := hrel
    have hll := ixN_len p k
    by_cases hlt : k < n
    · have c1 := ((HS.out.below hb hg).2 k hlt).1
      have hpk := HP.out k
      obtain ⟨q, hq⟩ : ∃ q, q = M k := ⟨_, rfl⟩
      rw [← hq] at c1 hpk
      clear hq
      by_cases hw : q = want
      · subst hw
        have HQ := Lib.hid (ixN_yes (p := p) (k := k) (by rw [hpk]; simp))
        have e9 : (q == q) = true := by simp
        clear hpk
        generalize ixN p k = L0 at *
        go_wp2_with (at_builtin; refine wpl_app1x rfl _ _ rfl _ _ rfl _ _ _ _ _ rfl (by exact hown) rfl (by omega) (by omega) ?_; intro v1 w1 hown1 hb1 hz1)
        go_roundw
        case rel => exact ⟨k + 1, by omega, by go_num, hb.trans hb1, by omega, by have h3 := hown1; rw [show L0.length + 1 = (L0 ++ [(k : Int)]).length by simp] at h3; rw [HQ.out]; exact h3⟩
        case measure => simp [intOf]; omega
      · have e9 : (q == want) = false := by simpa using hw
        have HQ := Lib.hid (ixN_no (p := p) (k := k) (by rw [hpk]; exact e9))
        clear hpk hw
        generalize ixN p k = L0 at *
        go_wp2
        go_roundw
        case rel => exact ⟨k + 1, by omega, by go_num, hb, by omega, by rw [HQ.out]; exact hown⟩
        case measure => simp [intOf]; omega
    · obtain rfl : k = n := by omega
      rw [← HL.out] at hown
      obtain ⟨B, d', rfl, hw⟩ := own_wr hown
      go_wp2
      go_ret
      exact ⟨B, d', rfl, hb, hw⟩

end Go.Proofs.Ytlkgbemlagfdjaa
