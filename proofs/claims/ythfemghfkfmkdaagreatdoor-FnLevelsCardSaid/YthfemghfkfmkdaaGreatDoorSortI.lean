/- slices.Sort at []int64, by the shelf's contract; the program's middle. -/
import Derived.Test.YthfemghfkfmkdaaGreatDoorSorted
import Derived.Test.YthfemghfkfmkdaaGreatDoorClone
import Derived.Test.YthfemghfkfmkdaaGreatDoorLevelsE
namespace Go.Proofs.YthfemghfkfmkdaaGreatDoor
open Go.RowKit Go.Sort

theorem mapBlock_other (w : World) (blk k : Nat) (f : Array Value → Array Value) (h : k ≠ blk) : (mapBlock w blk f).heap[k]? = w.heap[k]? := by
  simp only [mapBlock, Array.getElem?_modify]
  rw [if_neg (fun e => h e.symm)]

theorem sort_t (A : Option Addr) (lo n c : Nat) (xs : List Int) (w : World) (hn : n ≤ 1048576) (h0 : 0 < n) (ha : Wr w lo A n xs) :
    Calls Tryz.prog 68 #[.slice A n c] w fun e w' => e = .returned (.tuple #[]) ∧ Below lo w w' ∧ w.heap.size ≤ w'.heap.size ∧ Wr w' lo A n (srt xs) := by
  obtain ⟨b, o, rfl, hb0, hb1, hc⟩ := ha.2 h0
  have hl := ha.1
  subst hl
  have hH : Holds (Value.int .i64) w b o xs.toArray := by
    intro j hj
    have hj' : j < xs.length := by simpa using hj
    have h1 := hc j hj'
    rw [List.getD_eq_getElem?_getD, List.getElem?_eq_getElem hj'] at h1
    rw [getElem!_pos _ j hj]
    simpa using h1
  refine (Tryz.slices_Sort_int b o c xs w hH hb1 (by omega)).mono ?_
  rintro e w' ⟨rfl, m, os, rfl⟩
  have hsz : (srt xs).length = xs.length := srt_len xs
  have hP := holds_putRow (Value.int .i64) (Go.Sort.ahead w m) b o xs.toArray (srt xs).toArray hH (by simp [hsz])
  have hs1 : (putRow (Value.int .i64) (Go.Sort.ahead w m) b o (srt xs).toArray).heap.size = w.heap.size := by simp [putRow, mapBlock, Go.Sort.ahead]
  have hG := holds_grow (Value.int .i64) _ os b o (srt xs).toArray (by rw [hs1]; exact hb1) hP
  have hsize : w.heap.size ≤ (grow (putRow (Value.int .i64) (Go.Sort.ahead w m) b o (srt xs).toArray) os).heap.size := by rw [size_grow, hs1]; omega
  refine ⟨rfl, ⟨rfl, rfl, rfl, hsize, fun k hk => ?_⟩, hsize, hsz, fun _ => ⟨b, o, rfl, hb0, Nat.lt_of_lt_of_le hb1 hsize, fun j hj => ?_⟩⟩
  · show (grow (putRow (Value.int .i64) (Go.Sort.ahead w m) b o (srt xs).toArray) os).heap[k]? = w.heap[k]?
    rw [heap_grow_old _ _ (by rw [hs1]; omega)]
    exact mapBlock_other _ b k _ (by omega)
  · have hj2 : j < (srt xs).length := by omega
    have h1 := hG j (by simpa using hj2)
    rw [getElem!_pos _ j (by simpa using hj2)] at h1
    have h2 : (srt xs).getD j 0 = (srt xs).toArray[j]'(by simpa using hj2) := by rw [List.getD_eq_getElem?_getD, List.getElem?_eq_getElem hj2]; simp
    rw [h2]
    exact h1

set_option maxHeartbeats 800000 in
theorem middleOf_t (A : Option Addr) (n c : Nat) (xs : List Int) (w : World) (hn : n ≤ 1048576) (h0 : 0 < n) (ha : Rd w w.heap.size A n xs) :
    Calls Tryz.prog 33 #[.slice A n c] w fun e w' => e = .returned (.int .i64 ((srt xs).getD ((n - 1) / 2) 0)) ∧ Below w.heap.size w w' := by
  have HA := Lib.hid ha
  clear ha
  have e1 : (((n : Int) - 1) / 2).toNat = (n - 1) / 2 := by omega
  go_enter Tryz.func33, Tryz.ntmps33
  go_wp2_with (first | (go_at_call 67; refine (clone_t _ _ _ xs _ hn HA.out h0).mono ?_; rintro e1 W1 ⟨B, d, rfl, b1, x1⟩) | (go_at_call 68; refine (sort_t _ _ _ _ xs _ hn h0 x1).mono ?_; rintro e2 W2 ⟨rfl, b2, _, x2⟩; obtain ⟨b, o, rfl, _, _, hc⟩ := x2.2 h0; have c1 := (hc ((n - 1) / 2) (by omega)).1; clear hc))
  go_ret
  exact ⟨rfl, b1.trans b2⟩

def midOf (xs : List Int) : Int := (srt xs).getD ((xs.length - 1) / 2) 0
theorem mid_mem (xs : List Int) (h : 0 < xs.length) : midOf xs ∈ xs := by
  have h1 : (xs.length - 1) / 2 < (srt xs).length := by rw [srt_len]; omega
  have h2 : midOf xs = (srt xs)[(xs.length - 1) / 2] := by
    unfold midOf
    rw [List.getD_eq_getElem?_getD, List.getElem?_eq_getElem h1]
    rfl
  rw [h2]
  exact (srt_perm xs).subset (List.getElem_mem h1)
theorem mid_bd {xs : List Int} (h : LvOk xs.length xs) (h0 : 0 < xs.length) : -2000 ≤ midOf xs ∧ midOf xs ≤ 2000 := by
  obtain ⟨j, hj, e⟩ := List.getElem_of_mem (mid_mem xs h0)
  have := h.1 j hj
  rw [List.getD_eq_getElem?_getD, List.getElem?_eq_getElem hj] at this
  rw [← e]
  exact this


end Go.Proofs.YthfemghfkfmkdaaGreatDoor
