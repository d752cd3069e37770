/- Floods: the wet cells: cellsAt of the program, l11Wet of the model. -/
import Derived.Test.YthnioohiceohkaaFloC
namespace Go.Proofs.Ythnioohiceohkaa
open Go.RowKit

set_option maxRecDepth 100000 in
set_option maxHeartbeats 3200000 in
theorem cellsAt_t (r c : Int) (A : Option Addr) (n k : Nat) (xs : List Int) (x : Nat) (lv : Int) (w : World) (hv : LandOk r c xs) (ha : Rd w w.heap.size A n xs) (hx : x < n) (R : Array Value) (hR : R = bcs (wetB r c lv xs n x)) :
    Calls Try.prog 100 #[.agg #[.int .i64 r, .int .i64 c, .slice A n k, .int .i64 (x : Int)], .int .i64 lv] w fun e w' => e = .returned (.agg R) ∧ Below w.heap.size w w' := by
  have hln := ha.1
  have RA := Lib.hid ha
  have H := Lib.hid hv
  have HR := Lib.hid hR
  obtain ⟨b0, o0, rfl, hb0, hc0⟩ := ha.2 (by omega)
  have c1 := hc0 x hx
  obtain ⟨xz, hxz⟩ : ∃ v, v = xs.getD x 0 := ⟨_, rfl⟩
  rw [← hxz] at c1
  have HX := Lib.hid hxz
  have hR9 : R.size = 144 := by rw [hR]; exact bcs_size _
  have hn1 : n ≤ 1048576 := by have := hv.len; omega
  clear hv ha hc0 hR hxz
  obtain ⟨hz9, hi9⟩ := zero_of_info (P := Try.prog) (t := 66) (v := .agg (bcs fun _ => false)) (n := 144) (by kernel_rfl)
  have i1 : IsB ((w.alloc (.cells #[.int .i64 r, .int .i64 c, .slice (some ⟨b0, o0, none⟩) n k, .int .i64 (x : Int)] 61)).alloc (.cells (bcs fun _ => false) 66)) (w.heap.size + 1) (fun _ => false) := by
    have := IsB.new (w.alloc (.cells #[.int .i64 r, .int .i64 c, .slice (some ⟨b0, o0, none⟩) n k, .int .i64 (x : Int)] 61)) (fun _ => false)
    simpa using this
  by_cases hl : xz < lv
  · have HQ := Lib.hid (show R = bcs (wetN r c lv xs n x) by rw [HR.out]; unfold wetB; rw [← HX.out, if_pos hl])
    go_enter Try.func100, Try.ntmps100
    go_wp2_with (go_at_call 101; refine (poolWith_t r c _ n k xs x lv _ H.out ((RA.out.below (by repeat (first | assumption | exact Below.refl _ _ | (refine Below.setCell ?_ (by first | omega | (simp; done) | (simp; omega)) _) | apply below_drewN | apply Below.drew | (refine Below.alloc ?_ (by first | omega | (simp; done) | (simp; omega)) _)))).mono (by first | omega | (simp; done) | (simp; omega))) hx R HQ.out).mono ?_; rintro e1 W1 ⟨rfl, b1⟩; have i2 : IsB W1 (w.heap.size + 1) (fun _ => false) := i1.below b1 (by simp); have l4 := i2.storeCells (R := wetN r c lv xs n x); rw [← HQ.out] at l4; have d1 : Below w.heap.size w W1 := (by repeat (first | assumption | exact Below.refl _ _ | (refine Below.trans ?_ (b1.mono (by first | omega | (simp; done) | (simp; omega)))) | (refine Below.setCell ?_ (by first | omega | (simp; done) | (simp; omega)) _) | apply below_drewN | apply Below.drew | (refine Below.alloc ?_ (by first | omega | (simp; done) | (simp; omega)) _))); have hfin := i2.setRow (wetN r c lv xs n x); rw [← HQ.out] at hfin; have hbf := below_setRowB d1 (show w.heap.size ≤ w.heap.size + 1 by omega) R)
    refine bodyPost_ret (v := .agg R) ?_ rfl ⟨rfl, hbf⟩
    have e := HQ.out
    subst e
    exact results_cell_row Try.results100 _ _ _ _ _ _ _ rfl hfin Try.underlying66 rfl (by rw [bcs_size]; exact cs_info)
  · have HQ := Lib.hid (show R = bcs fun _ => false by rw [HR.out]; unfold wetB; rw [← HX.out, if_neg hl])
    go_enter Try.func100, Try.ntmps100
    have l4 := i1.storeCells (R := fun _ => false)
    have hfin := i1.setRow (fun _ => false)
    have hbf := below_setRowB (show Below w.heap.size w _ from (by repeat (first | assumption | exact Below.refl _ _ | (refine Below.setCell ?_ (by first | omega | (simp; done) | (simp; omega)) _) | apply below_drewN | apply Below.drew | (refine Below.alloc ?_ (by first | omega | (simp; done) | (simp; omega)) _)))) (show w.heap.size ≤ w.heap.size + 1 by omega) (bcs fun _ => false) (w := (w.alloc (.cells #[.int .i64 r, .int .i64 c, .slice (some ⟨b0, o0, none⟩) n k, .int .i64 (x : Int)] 61)).alloc (.cells (bcs fun _ => false) 66))
    go_wp2
    refine bodyPost_ret (v := .agg R) ?_ rfl ⟨rfl, hbf⟩
    have e := HQ.out
    subst e
    exact results_cell_row Try.results100 _ _ _ _ _ _ _ rfl hfin Try.underlying66 rfl (by rw [bcs_size]; exact cs_info)

theorem info_boolF : (Try.prog.info? 4).map (fun i => (i.zero, i.size, i.bytes)) = some (some (.bool false), 1, 1) := by kernel_rfl
theorem IsL.new (W : World) (n m : Nat) (E : TypeId) (hm : m = n) : IsL (W.alloc (.cells (madeCells (Value.bool false).cells m) E)) W.heap.size n (fun _ => false) := by
  subst hm
  have h : (W.alloc (.cells (madeCells (Value.bool false).cells m) E)).heap[W.heap.size]? = some (.cells (madeCells (Value.bool false).cells m) E (0, 0)) := heap_alloc_new W _
  refine ⟨by simp, fun j hj => ⟨?_, frozen_of_row h _⟩⟩
  rw [cell_of_row _ _ _ _ _ _ h]
  simp [madeCells, hj, Value.cells, Nat.mod_one]

set_option maxRecDepth 100000 in
set_option maxHeartbeats 3200000 in
theorem l11Wet_t (b : Nat) (r c : Int) (A : Option Addr) (n k : Nat) (xs : List Int) (x : Nat) (lv : Int) (w : World) (hv : LandOk r c xs) (ha : Rd w w.heap.size A n xs) (hx : x < n) (hl : LandAt w b r c A n k) (hb : b < w.heap.size) (M : Nat → Bool) (hM : M = wetB r c lv xs n x) :
    Calls Try.prog 54 #[.pointer (some ⟨b, 0, none⟩), .int .i64 (x : Int), .int .i64 lv] w fun e w' => ∃ g d, e = .returned (.slice (some ⟨g, 0, none⟩) n d) ∧ Below w.heap.size w w' ∧ w.heap.size ≤ g ∧ IsL w' g n M := by
  have hln := ha.1
  have hlen := hv.len
  have RA := Lib.hid ha
  have H := Lib.hid hv
  have HM := Lib.hid hM
  obtain ⟨b0, o0, rfl, hb0, hc0⟩ := ha.2 (by omega)
  have c1 := hc0 x hx
  obtain ⟨xz, hxz⟩ : ∃ v, v = xs.getD x 0 := ⟨_, rfl⟩
  rw [← hxz] at c1
  have HX := Lib.hid hxz
  have hn1 : n ≤ 144 := by omega
  clear hv ha hc0 hM hxz hlen
  obtain ⟨i0, hi, hz0, hz1, hz2⟩ := info_parts info_boolF
  have hmk := fun W => run_make_rowN (P := Try.prog) 84 4 i0 (.bool false) Try.underlying84 hi hz0 .i64 .i64 n n (Nat.le_refl _) (by rw [hz2]; omega) (by omega) W
  rw [hz1] at hmk
  obtain ⟨cs, hcs⟩ : ∃ cs, cs = madeCells (Value.bool false).cells (n * 1) := ⟨_, rfl⟩
  rw [← hcs] at hmk
  have i1 : IsL (w.alloc (.cells cs 4)) w.heap.size n (fun _ => false) := by rw [hcs]; exact IsL.new w n (n * 1) _ (by omega)
  obtain ⟨y0, y1, y2⟩ := hl
  have hat1 : LandAt (w.alloc (.cells cs 4)) b r c (some ⟨b0, o0, none⟩) n k := LandAt.below ⟨y0, y1, y2⟩ ((Below.refl w.heap.size w).alloc (Nat.le_refl _) _) hb
  have hne : ¬ b = w.heap.size := by omega
  clear hcs hz1 hz2 hz0 hi
  by_cases hl : xz < lv
  · have HQ := Lib.hid (show M = wetN r c lv xs n x by rw [HM.out]; unfold wetB; rw [← HX.out, if_pos hl])
    go_enter Try.func54, Try.ntmps54
    go_wp2_with (go_at_call 69; refine (l03Part_t b w.heap.size r c _ n k n xs x lv _ H.out ((RA.out.below (by repeat (first | assumption | exact Below.refl _ _ | (refine Below.setCell ?_ (by first | omega | (simp; done) | (simp; omega)) _) | apply below_drewN | apply Below.drew | (refine Below.alloc ?_ (by first | omega | (simp; done) | (simp; omega)) _)))).mono (by first | omega | (simp; done) | (simp; omega))) hx hat1 (by simp; omega) i1 hne (fun b1 h => by have e : b0 = b1 := (by simpa [ablk] using h); omega)).mono ?_; rintro e1 W1 ⟨⟨j, rfl⟩, g1, s1⟩)
    go_ret
    have hb9 : Below w.heap.size w W1 := ((Below.refl w.heap.size w).alloc (Nat.le_refl _) _).grown g1 (by simp) (fun k hk => by have e : w.heap.size = k := (by simpa using hk); omega)
    have s9 : IsL W1 w.heap.size n M := by rw [HQ.out]; exact s1
    first
    | exact ⟨_, _, rfl, hb9, Nat.le_refl _, s9⟩
    | exact ⟨_, ⟨_, rfl⟩, hb9, Nat.le_refl _, s9⟩
  · have HQ := Lib.hid (show M = fun _ => false by rw [HM.out]; unfold wetB; rw [← HX.out, if_neg hl])
    go_enter Try.func54, Try.ntmps54
    go_wp2
    go_ret
    have hb9 := (Below.refl w.heap.size w).alloc (Nat.le_refl _) (.cells cs 4)
    have s9 : IsL (w.alloc (.cells cs 4)) w.heap.size n M := by rw [HQ.out]; exact i1
    first
    | exact ⟨_, _, rfl, hb9, Nat.le_refl _, s9⟩
    | exact ⟨_, ⟨_, rfl⟩, hb9, Nat.le_refl _, s9⟩

end Go.Proofs.Ythnioohiceohkaa
