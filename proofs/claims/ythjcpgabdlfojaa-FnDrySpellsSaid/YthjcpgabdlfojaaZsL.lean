/- The longest stretch of zeros, of the program; and that it is the model's. -/
import Derived.Test.YthjcpgabdlfojaaZsI
namespace Go.Proofs.Ythjcpgabdlfojaa
open Go.RowKit Go.Shelf

/-- the model: the most days without water out that end at some day -/
def mxN (xs : List Int) : Nat → Int
  | 0 => 0
  | k + 1 => max (mxN xs k) (dryN xs (k + 1) : Int)
theorem mx_lg (xs : List Int) (n : Nat) : ∀ k, k ≤ n → max (lgN (spN xs n k) (spN xs n k).length) (dryN xs k : Int) = mxN xs k ∧ ((k = n ∨ 0 < xs.getD k 0) → (dryN xs k : Int) ≤ lgN (spN xs n k) (spN xs n k).length) ∧ 0 ≤ lgN (spN xs n k) (spN xs n k).length := by
  intro k
  induction k with
  | zero => intro _; simp [mxN, dryN, spN, lgN]
  | succ k ih =>
    intro hk
    obtain ⟨a, b, c⟩ := ih (by omega)
    by_cases hx : 0 < xs.getD k 0
    · obtain ⟨e1, e2⟩ := sp_next (n := n) hx
      have b' := b (.inr hx)
      rw [e1, e2]
      simp only [mxN]
      rw [e2]
      refine ⟨by omega, fun _ => by simpa using c, c⟩
    · have hd : dryN xs (k + 1) = dryN xs k + 1 := by simp only [dryN]; rw [if_neg hx]
      by_cases he : k + 1 = n ∨ 0 < xs.getD (k + 1) 0
      · have ht : endD xs n k = true := decide_eq_true ⟨hx, he⟩
        have hs := spN_yes ht
        have hl : lgN (spN xs n (k + 1)) (spN xs n (k + 1)).length = max (lgN (spN xs n k) (spN xs n k).length) (dryN xs (k + 1) : Int) := by
          rw [hs, List.length_append, List.length_singleton]
          exact lgN_app _ _
        rw [hl]
        simp only [mxN]
        refine ⟨by omega, fun _ => by omega, by omega⟩
      · have ht : endD xs n k = false := decide_eq_false (fun g => he g.2)
        rw [spN_no ht]
        simp only [mxN]
        refine ⟨by omega, fun h => absurd h he, c⟩
theorem mx_eq (xs : List Int) (n : Nat) : lgN (spN xs n n) (spN xs n n).length = mxN xs n := by
  obtain ⟨a, b, _⟩ := mx_lg xs n n (Nat.le_refl _)
  have := b (.inl rfl)
  omega

attribute [local go_sem] Oper.semAt_some
set_option maxRecDepth 100000 in
set_option maxHeartbeats 4000000 in
theorem longestZ_t (b o n c : Nat) (xs : List Int) (w : World) (hn : n ≤ 1000) (hnn : ∀ j, j < n → 0 ≤ xs.getD j 0) (hbB : b < w.heap.size) (hc : ∀ j, j < n → w.cell? ⟨b, o + j, none⟩ = some (.int .i64 (xs.getD j 0))) (m : Int) (hm0 : lgN (spN xs n n) (spN xs n n).length = m) :
    Calls Try.prog 22 #[.slice (some ⟨b, o, none⟩) n c] w fun e w' => e = .returned (.int .i64 m) ∧ Below w.heap.size w w' := by
  have HC := Lib.hid hc
  have HN := Lib.hid hnn
  subst hm0
  clear hc hnn
  refine (callsIn_wide (n := 9)).1 ?_
  refine callsIn_of_wp_marks Try.func22 rfl trivial ?_ rfl
  simp only [Try.ntmps22, List.size_toArray, List.length_cons, List.length_nil, Nat.reduceAdd, Nat.reduceSub, Array.replicate_succ, Array.replicate_zero, List.push_toArray, List.append_toArray, List.nil_append, List.cons_append]
  gi_wp2_with (refine ⟨trivial, ?_⟩; gi_at_call 21; refine (zsp_in Fence.wide _ trivial rfl _ _ _ _).mono ?_; rintro e w' ⟨rfl, rfl⟩)
  obtain ⟨W0, hW0⟩ : ∃ W0, W0 = ((w.alloc (.cells #[.int .i64 0] 2)).alloc (.cells #[.slice (some ⟨b, o, none⟩) n c] 24)) := ⟨_, rfl⟩
  have bO : Boxed W0 w.heap.size 2 (.int .i64 0) := by rw [hW0]; exact (Boxed.new w _ _).alloc _
  have bL : Boxed W0 (w.heap.size + 1) 24 (.slice (some ⟨b, o, none⟩) n c) := by
    have h := Boxed.new (w.alloc (.cells #[.int .i64 0] 2)) 24 (.slice (some ⟨b, o, none⟩) n c)
    rw [World.size_alloc] at h
    rw [hW0]; exact h
  have hB0 : Below w.heap.size w W0 := by rw [hW0]; exact ((Below.refl _ w).alloc (Nat.le_refl _) _).alloc (by simp) _
  have hz : W0.heap.size = w.heap.size + 2 := by rw [hW0]; simp
  rw [← hW0]
  clear hW0
  refine wpIn_rangeFunc_ownG rfl (by omega) (gf := 30) (lb := #[.pointer (some ⟨w.heap.size + 1, 0, none⟩)]) rfl trivial (enters_of Try.func30 (by kernel_rfl) rfl)
    (zsp_stops Fence.wide 8 trivial rfl (by omega) (w.heap.size + 1) w.heap.size (w.heap.size + 2) b o n c xs hn HN.out W0 (by omega) (by omega) (by omega) (by omega) (by omega) bL.cell (fun j hj => (hB0.cell (p := ⟨b, o + j, none⟩) hbB).trans (HC.out j hj))) But.trans (butK_b (by omega)) (Below.refl _ _) (fun _ => rfl)
    (fun pre W => Boxed W w.heap.size 2 (.int .i64 (lgN pre pre.length)) ∧ Below w.heap.size w W ∧ w.heap.size + 2 ≤ W.heap.size)
    (fun _ _ _ => False)
    (OwnFrom.and (Own.from (boxed_own' w.heap.size 2 (fun pre => .int .i64 (lgN pre pre.length))) _) (OwnFrom.and (ownFrom_below (Nat.le_refl _) (by omega)) (fun _ _ _ _ hs hg _ => Nat.le_trans hs hg.size)))
    (fun _ _ _ _ _ hs _ _ => hs)
    ⟨bO, hB0, by omega⟩
    (fun x => { tmps := #[.slice (some ⟨b, o, none⟩) n c, undef, .int .i64 0, .pointer (some ⟨w.heap.size, 0, none⟩), undef, .int .i64 (x.2 : Int), .slice (some ⟨b, o, none⟩) n c, .func (.func 30) #[] #[.pointer (some ⟨w.heap.size + 1, 0, none⟩)], .int .i64 (x.1 : Int), .int .i64 (x.2 : Int), undef, undef, undef, undef], defers := [] }) ?assign ?body ?done ?stop
  case assign =>
    intro l x W K hK
    dsimp only [encP]
    gi_wp2
    exact hK
  case body =>
    rintro l pre x W ⟨hv, hB, h3⟩ hlt
    have hc := hv.cell
    have hf := hv.frozen
    have HA := Lib.hid (lgN_app pre x)
    have hsz : (pre ++ [x]).length = pre.length + 1 := by simp
    rw [← hsz] at HA
    generalize lgN pre pre.length = m at *
    by_cases hm : m < (x.2 : Int)
    · gi_wp2
      exact ⟨(KeepsOthers.setCell _ _ _).from _, (But.refl _ _ _).setCell (p := ⟨w.heap.size, 0, none⟩) (.inl rfl) _, by rw [HA.out, show max m (x.2 : Int) = (x.2 : Int) by omega]; exact hv.set _, hB.setCell (p := ⟨w.heap.size, 0, none⟩) (Nat.le_refl _) _, by simpa [World.setCell] using h3⟩
    · gi_wp2
      exact ⟨(KeepsOthers.setCell _ _ _).from _, (But.refl _ _ _).setCell (p := ⟨w.heap.size, 0, none⟩) (.inl rfl) _, by rw [HA.out, show max m (x.2 : Int) = m by omega]; exact hv.set _, hB.setCell (p := ⟨w.heap.size, 0, none⟩) (Nat.le_refl _) _, by simpa [World.setCell] using h3⟩
  case done =>
    rintro D ys W hD rfl ⟨hv, hB, h3⟩ hK
    have hc := hv.cell
    gi_wp2
    refine ⟨by simp, .inl ⟨_, _, rfl, run_takeDeferred hK, ?_⟩⟩
    exact ⟨_, results_tmp rfl _ _ _, rfl, hB.trans (belowK_b (w := w) (Nat.le_refl _) W D _ _ (by omega) hK rfl rfl)⟩
  case stop =>
    rintro D c' pre W _ _ h _
    exact h.elim

theorem longestZ_r (b o n c : Nat) (xs : List Int) (w : World) (hn : n ≤ 1000) (hnn : ∀ j, j < n → 0 ≤ xs.getD j 0) (hbB : b < w.heap.size) (ha : Rd w w.heap.size (some ⟨b, o, none⟩) n xs) (m : Int) (hm0 : lgN (spN xs n n) (spN xs n n).length = m) :
    Calls Try.prog 22 #[.slice (some ⟨b, o, none⟩) n c] w fun e w' => e = .returned (.int .i64 m) ∧ Below w.heap.size w w' :=
  longestZ_t b o n c xs w hn hnn hbB (fun j hj => by
    obtain ⟨b', o', e, _, hc⟩ := ha.2 (by omega)
    injection e with e
    injection e with e1 e2
    subst e1
    subst e2
    exact hc j hj) m hm0

end Go.Proofs.Ythjcpgabdlfojaa
