/- slices.Repeat of one number. -/
import Derived.Test.YtckhfkgldemcnaaDoorReg
import Derived.Laws.CopyOwn
import Derived.Deep.RegionLaw
import Derived.IntWalk
import Derived.Lib.VarintBits
namespace Go.Proofs.YtckhfkgldemcnaaDoor
open Go.RowKit

theorem u64_and32 (x : Int) (h0 : 0 ≤ x) (h1 : x < 18446744073709551616) : bits .and .u64 x 4294967295 = x % 4294967296 := by
  have h := bits_mask .u64 64 (by decide) wraps_u64 32 (by decide) x h0 (by omega)
  simpa using h

set_option maxRecDepth 100000 in
set_option maxHeartbeats 800000 in
theorem mul64_t (n : Nat) (w : World) (hn : n ≤ 1048576) :
    Calls Tryd.prog 128 #[.int .u64 1, .int .u64 (n : Int)] w fun e w' => e = .returned (.tuple #[.int .u64 0, .int .u64 (n : Int)]) ∧ w = w' := by
  have b1 : bits .and .u64 1 4294967295 = 1 := u64_and32 1 (by omega) (by omega)
  have b0 : bits .and .u64 0 4294967295 = 0 := u64_and32 0 (by omega) (by omega)
  have b2 : bits .and .u64 (n : Int) 4294967295 = (n : Int) := by rw [u64_and32 _ (by omega) (by omega)]; omega
  have b3 : (n : Int) / 4294967296 = 0 := by omega
  have b4 := IntWalk.u64_in (n : Int) (by omega)
  go_enter Tryd.func128, Tryd.ntmps128
  go_wp2
  go_ret2
  simp [b0, b1, b2, b3, b4, IntWalk.u64_in]

set_option maxRecDepth 100000 in
set_option maxHeartbeats 800000 in
theorem mul_t (n : Nat) (w : World) (hn : n ≤ 1048576) :
    Calls Tryd.prog 110 #[.int .u64 1, .int .u64 (n : Int)] w fun e w' => e = .returned (.tuple #[.int .u64 0, .int .u64 (n : Int)]) ∧ w = w' := by
  go_enter Tryd.func110, Tryd.ntmps110
  go_wp2_with (go_at_call 128; refine (mul64_t n _ hn).mono ?_; rintro e w' ⟨rfl, rfl⟩)
  go_ret2
  exact ⟨rfl, rfl⟩

def repC (k n : Nat) (s : Int) : List Value := List.replicate k (.int .i64 s) ++ List.replicate (n - k) (.int .i64 0)
theorem lt_of_heap {w : World} {g : Nat} {o : Obj} (h : w.heap[g]? = some o) : g < w.heap.size := by
  rcases Nat.lt_or_ge g w.heap.size with k | k
  · exact k
  · rw [Array.getElem?_eq_none k] at h; cases h
theorem repC_len (k n : Nat) (s : Int) (h : k ≤ n) : (repC k n s).length = n := by simp [repC]; omega
theorem repC_splice (k m n : Nat) (s : Int) (h : k + m ≤ n) : splice (repC k n s) k (List.replicate m (.int .i64 s)) = repC (k + m) n s := by
  unfold splice repC
  rw [List.take_left' (by simp), List.length_replicate, List.drop_append, List.drop_replicate, List.drop_replicate, List.length_replicate, show k - (k + m) = 0 by omega, show n - k - (k + m - k) = n - (k + m) by omega, List.replicate_zero, List.nil_append, ← List.append_assoc, List.replicate_append_replicate]
theorem repC_one (k n : Nat) (s : Int) : ∀ v ∈ repC k n s, v.oneCell' = true := by
  intro v hv
  unfold repC at hv
  rcases List.mem_append.1 hv with h | h
  · rw [List.eq_of_mem_replicate h]; rfl
  · rw [List.eq_of_mem_replicate h]; rfl
theorem made_rep (n : Nat) (s : Int) : madeCells (Value.int .i64 0).cells n = (repC 0 n s).toArray := by
  apply Array.ext
  · simp [madeCells, repC]
  · intro i h1 h2
    simp [madeCells, repC, Value.cells, Nat.mod_one]
theorem rep_cell {w : World} {g k n : Nat} {s : Int} {t : TypeId} (h : w.heap[g]? = some (.cells (repC k n s).toArray t (0, 0))) {j : Nat} (hj : j < k) (hk : k ≤ n) : w.cell? ⟨g, j, none⟩ = some (.int .i64 s) := by
  rw [cell_of_row _ _ _ _ _ _ h]
  have e : (repC k n s)[j]? = some (.int .i64 s) := by
    unfold repC
    rw [List.getElem?_append_left (by simpa using hj)]
    simp [hj]
  simpa using e

set_option maxRecDepth 100000 in
set_option maxHeartbeats 3200000 in
theorem rep_t (xb n : Nat) (s : Int) (w : World) (hn : n ≤ 1048576) (hx : w.cell? ⟨xb, 0, none⟩ = some (.int .i64 s)) (hxb : xb < w.heap.size) :
    Calls Tryd.prog 90 #[.slice (some ⟨xb, 0, none⟩) 1 1, .int .i64 (n : Int)] w fun e w' => e = .returned (.slice (some ⟨w.heap.size, 0, none⟩) n n) ∧ Below w.heap.size w w' ∧ w.heap.size < w'.heap.size ∧ Wr w' w.heap.size (some ⟨w.heap.size, 0, none⟩) n (List.replicate n s) := by
  obtain ⟨i0, hi, hz0, hz1, hz2⟩ := info_parts info_i64
  have hmk := fun W => run_make_rowN (P := Tryd.prog) 22 2 i0 (.int .i64 0) Tryd.underlying22 hi hz0 .i64 .i64 n n (Nat.le_refl _) (by rw [hz2]; omega) (by omega) W
  rw [hz1] at hmk
  simp only [Nat.mul_one, made_rep n s] at hmk
  have hsz : ((Tryd.prog).info? 2).map (·.size) = some 1 := by rw [hi]; simp [hz1]
  have c1 := IntWalk.i64_in (n : Int) (by omega)
  have c2 := IntWalk.u64_in (n : Int) (by omega)
  have c3 : ¬ ((n : Int) < 0) := by omega
  have c4 : ¬ ((n : Int) > 9223372036854775807) := by omega
  clear hi hz0 hz1 hz2
  go_enter Tryd.func90, Tryd.ntmps90
  go_wp2_with (first
    | (go_at_call 110; refine (mul_t n _ hn).mono ?_; rintro e w' ⟨rfl, rfl⟩)
    | (refine wpList_copy_splice rfl (.tmp 31) (.tmp 32) 22 22 rfl 2 Tryd.underlying22 hsz _ _ _ _ _ _ rfl rfl w.heap.size 0 (repC 0 n s) 2 (heap_alloc_new w _) (List.replicate (min 1 n) (.int .i64 s)) (by simp [Nat.min_def]; try omega) (fun hp => ⟨rfl, ⟨xb, 0, none⟩, rfl, fun j v hv => by
        have hj : j < min 1 n := by simpa using (List.getElem?_eq_some_iff.1 hv).1
        obtain rfl : j = 0 := by omega
        have e : v = .int .i64 s := by rw [List.getElem?_replicate, if_pos hj] at hv; injection hv with hv; exact hv.symm
        subst e
        rw [addr_add]
        exact (Below.cell (B := w.heap.size) (by repeat (first | assumption | exact Below.refl _ _ | (refine Below.setCell ?_ (by first | omega | (simp; done) | (simp; omega)) _) | apply below_drewN | apply Below.drew | (refine Below.alloc ?_ (by first | omega | (simp; done) | (simp; omega)) _))) (p := ⟨xb, 0, none⟩) hxb).trans hx⟩) (by rw [List.length_replicate, repC_len _ _ _ (by omega)]; omega) (fun v hv => by rw [List.eq_of_mem_replicate hv]; rfl) w.heap.size w (by repeat (first | assumption | exact Below.refl _ _ | (refine Below.setCell ?_ (by first | omega | (simp; done) | (simp; omega)) _) | apply below_drewN | apply Below.drew | (refine Below.alloc ?_ (by first | omega | (simp; done) | (simp; omega)) _))) (Nat.le_refl _) ?_; intro w2 HG2 hB2; rw [repC_splice 0 (min 1 n) n s (by omega), Nat.zero_add] at HG2))
  have hs2 := hB2.size
  have sz2 : w.heap.size < w2.heap.size := by
    have h := HG2.out
    rcases Nat.lt_or_ge w.heap.size w2.heap.size with g | g
    · exact g
    · rw [Array.getElem?_eq_none g] at h; cases h
  go_loopw [8] (fun i wr => ∃ k : Nat, min 1 n ≤ k ∧ k ≤ n ∧ i = .int .i64 (k : Int) ∧ Below w.heap.size w wr ∧ w.heap.size < wr.heap.size ∧ Hid (wr.heap[w.heap.size]? = some (.cells (repC k n s).toArray 2 (0, 0)))) (fun i _ => n - (intOf i).toNat)
  case atStart => exact ⟨min 1 n, Nat.le_refl _, Nat.min_le_right _ _, by simp [goInt], hB2, sz2, HG2⟩
  case round =>
    obtain ⟨k, hk1, hk, rfl, hB, sz, HG⟩ := hrel
    by_cases hlt : k < n
    · have i1 : (k : Int) < (n : Int) := by omega
      have i2 : (k : Int) ≤ (n : Int) := by omega
      have i3 : 0 < k := by omega
      obtain ⟨m, hm⟩ : ∃ m, m = min k (n - k) := ⟨_, rfl⟩
      have HM := Lib.hid hm
      have m1 : m ≤ k := by omega
      have m2 : k + m ≤ n := by omega
      have m3 : 0 < m := by omega
      have wm := IntWalk.i64_in ((k : Int) + (m : Int)) (by omega)
      clear hm
      go_wp2_with fail
      go_region_law (refine step_copy_splice rfl (.tmp 41) (.tmp 44) 22 22 rfl 2 Tryd.underlying22 hsz (some ⟨w.heap.size, k, none⟩) (some ⟨w.heap.size, 0, none⟩) (n - k) (n - k) k n (by simp [Act.eval, Act.put]; try omega) (by simp [Act.eval, Act.put]; try omega) w.heap.size k (repC k n s) 2 HG.out (List.replicate m (.int .i64 s)) (by rw [List.length_replicate]; exact HM.out) (fun hp => ⟨rfl, ⟨w.heap.size, 0, none⟩, rfl, fun j v hv => by
          have hj : j < m := by simpa using (List.getElem?_eq_some_iff.1 hv).1
          have e : v = .int .i64 s := by rw [List.getElem?_replicate, if_pos hj] at hv; injection hv with hv; exact hv.symm
          subst e
          rw [addr_add, Nat.zero_add]
          exact rep_cell HG.out (by omega) hk⟩) (by rw [List.length_replicate, repC_len _ _ _ hk]; omega) (fun v hv => by rw [List.eq_of_mem_replicate hv]; rfl) w.heap.size w hB.drew (Nat.le_refl _) ?_; intro w4 HG4 hB4)
      simp [Act.put, goInt, wm]
      go_roundw
      case rel => exact ⟨_, _, _, _, _, _, _, _, _, _, _, _, _, _, ⟨k + m, by omega, by omega, by go_num, hB4, lt_of_heap HG4.out, (by rw [← repC_splice k m n s (by omega)]; exact HG4)⟩, rfl⟩
      case measure => simp [intOf]; omega
    · obtain rfl : k = n := by omega
      go_wp2
      go_ret
      refine ⟨rfl, hB, sz, ⟨by simp, fun h0 => ⟨w.heap.size, 0, rfl, Nat.le_refl _, sz, fun j hj => ⟨?_, frozen_of_row HG.out _⟩⟩⟩⟩
      rw [Nat.zero_add, rep_cell HG.out hj (Nat.le_refl _)]
      simp [List.getD_eq_getElem?_getD, hj]


end Go.Proofs.YtckhfkgldemcnaaDoor
