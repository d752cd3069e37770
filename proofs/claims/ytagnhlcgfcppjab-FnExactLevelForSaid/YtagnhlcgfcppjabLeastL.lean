/- The least level up to which a land takes some water: leastLevel, at a land behind the interface. -/
import Derived.Test.YtagnhlcgfcppjabLandW
import Derived.Test.YtagnhlcgfcppjabSearchD
import Derived.Deep.RegionHeld3
namespace Go.Proofs.Ytagnhlcgfcppjab
open Go.RowKit

theorem vol_mono (xs : List Int) (y z : Int) (h : y ≤ z) (k : Nat) : vol y xs k ≤ vol z xs k := by
  induction k with
  | zero => exact Int.le_refl _
  | succ k ih => simp only [vol]; omega

set_option maxRecDepth 100000 in
set_option maxHeartbeats 1600000 in
theorem leastCW_t (B1 B2 B3 h N : Nat) (hi : Int) (r c : Int) (A : Option Addr) (n k : Nat) (xs : List Int) (lo V : Int) (w : World) (e : hi = (h : Int)) (hh : h < N) (hN : lo + (N : Int) ≤ 2001) (hlo : -2000 ≤ lo) (hk : LandOk r c xs) (c1 : w.cell? ⟨B1, 0, none⟩ = some (.iface 27 (.agg #[.int .i64 r, .int .i64 c, .slice A n k]))) (c2 : w.cell? ⟨B2, 0, none⟩ = some (.int .i64 lo)) (c3 : w.cell? ⟨B3, 0, none⟩ = some (.int .i64 V)) (ha : Rd w w.heap.size A n xs) (l1 : B1 < w.heap.size) (l2 : B2 < w.heap.size) (l3 : B3 < w.heap.size) (v : Bool) (hv : v = decide (V ≤ vol (lo + (h : Int)) xs n)) :
    Calls Try.prog 87 #[.int .i64 hi, .pointer (some ⟨B1, 0, none⟩), .pointer (some ⟨B2, 0, none⟩), .pointer (some ⟨B3, 0, none⟩)] w fun e w' => e = .returned (.bool v) ∧ Below w.heap.size w w' := by
  subst e
  have HA := Lib.hid ha
  have HK := Lib.hid hk
  have HV := Lib.hid hv
  clear ha hk hv
  have f1 := IntWalk.i64_in (lo + (h : Int)) (by omega)
  have HY := Lib.hid (show lvl (lo + (h : Int)) by unfold lvl; omega)
  have hm : ∀ (j : Nat) (w : World), (method (j + 1) 27 (.agg #[.int .i64 r, .int .i64 c, .slice A n k]) "loop.example/g01032/impl.volumeAt").run Try.prog w = .ok (66, .agg #[.int .i64 r, .int .i64 c, .slice A n k]) w := fun _ _ => by kernel_rfl
  go_enter Try.func87, Try.ntmps87
  go_wp2_with fail
  go_region_held3 (fun w' => w'.cell? ⟨B1, 0, none⟩ = some (.iface 27 (.agg #[.int .i64 r, .int .i64 c, .slice A n k])) ∧ w'.cell? ⟨B2, 0, none⟩ = some (.int .i64 lo) ∧ w'.cell? ⟨B3, 0, none⟩ = some (.int .i64 V)) (go_keep)
    (first | (go_at_call 66; refine (volumeBelow_t _ _ _ _ _ xs _ _ (show Rd w.drew w.drew.heap.size A n xs from HA.out) HK.out HY.out).mono ?_; rintro e1 W1 ⟨rfl, b1⟩; have z1 : W1.cell? ⟨B1, 0, none⟩ = _ := (b1.cell (p := ⟨B1, 0, none⟩) l1).trans c1; have z2 : W1.cell? ⟨B2, 0, none⟩ = _ := (b1.cell (p := ⟨B2, 0, none⟩) l2).trans c2; have z3 : W1.cell? ⟨B3, 0, none⟩ = _ := (b1.cell (p := ⟨B3, 0, none⟩) l3).trans c3; have k1 : Below w.heap.size w W1 := (by repeat (first | assumption | exact Below.refl _ _ | (refine Below.trans ?_ (b1.mono (by first | omega | (simp; done) | (simp; omega)))) | (refine Below.setCell ?_ (by first | omega | (simp; done) | (simp; omega)) _) | apply below_drewN | apply Below.drew | (refine Below.alloc ?_ (by first | omega | (simp; done) | (simp; omega)) _)))))
  go_wp2
  go_ret
  exact ⟨ret_bool HV.out.symm, k1⟩

theorem cell_al3w (w : World) (a b : Obj) (v : Value) (E : TypeId) : (((w.alloc a).alloc b).alloc (.cells #[v] E)).cell? ⟨w.heap.size + 1 + 1, 0, none⟩ = some v := by
  have e : ((w.alloc a).alloc b).heap.size = w.heap.size + 2 := by simp
  rw [← e, World.cell?_alloc_new]
  rfl

set_option maxRecDepth 100000 in
set_option maxHeartbeats 3200000 in
theorem leastW_t (r c : Int) (A : Option Addr) (n k : Nat) (xs : List Int) (lo V : Int) (N : Nat) (w : World) (ha : Rd w w.heap.size A n xs) (hk : LandOk r c xs) (h1 : -2000 ≤ lo) (h2 : lo ≤ 2000) (hN : lo + (N : Int) = 2001) :
    Calls Try.prog 69 #[.iface 27 (.agg #[.int .i64 r, .int .i64 c, .slice A n k]), .int .i64 lo, .int .i64 2000, .int .i64 V] w fun e w' => ∃ p : Nat, e = .returned (.int .i64 (lo + (p : Int))) ∧ Below w.heap.size w w' ∧ p ≤ N ∧ (∀ j, j < p → ¬ V ≤ vol (lo + (j : Int)) xs n) ∧ (p < N → V ≤ vol (lo + (p : Int)) xs n) := by
  have HA := Lib.hid ha
  have HK := Lib.hid hk
  clear ha hk
  have e1 : (2000 : Int) - lo + 1 = (N : Int) := by omega
  have f1 := IntWalk.i64_in (2000 - lo) (by omega)
  have f2 := IntWalk.i64_in (2000 - lo + 1) (by omega)
  have f4 := IntWalk.i64_in (N : Int) (by omega)
  go_enter Try.func69, Try.ntmps69
  go_wp2_with fail
  go_region_held3 (fun w' => w'.cell? ⟨w.heap.size, 0, none⟩ = some (.iface 27 (.agg #[.int .i64 r, .int .i64 c, .slice A n k])) ∧ w'.cell? ⟨w.heap.size + 1, 0, none⟩ = some (.int .i64 lo) ∧ w'.cell? ⟨w.heap.size + 1 + 1, 0, none⟩ = some (.int .i64 V)) (first | (refine ⟨?_, ?_, ?_⟩ <;> first | exact cell_al3w _ _ _ _ _ | go_keep) | go_keep)
    (first | (go_at_call 86; (try rw [f4]); refine (srch_ll (.pointer (some ⟨w.heap.size, 0, none⟩)) (.pointer (some ⟨w.heap.size + 1, 0, none⟩)) (.pointer (some ⟨w.heap.size + 1 + 1, 0, none⟩)) N (fun j => V ≤ vol (lo + (j : Int)) xs n) (fun a b hab hb hpa => by have := vol_mono xs (lo + (a : Int)) (lo + (b : Int)) (by omega) n; omega) _ (by omega) ?hcl).mono ?_; (case hcl => exact fun i j W v hi hj hb hv => leastCW_t _ _ _ j N i r c A n k xs lo V W hi hj (by omega) h1 HK.out ((hb.cell (p := ⟨w.heap.size, 0, none⟩) (by first | omega | (simp; done) | (simp; omega))).trans (by first | (simp; done) | go_simp)) ((hb.cell (p := ⟨w.heap.size + 1, 0, none⟩) (by first | omega | (simp; done) | (simp; omega))).trans (by first | (simp; done) | go_simp)) ((hb.cell (p := ⟨w.heap.size + 1 + 1, 0, none⟩) (by first | omega | (simp; done) | (simp; omega))).trans (by exact cell_al3w _ _ _ _ _)) ((HA.out.below (Below.trans (by repeat (first | assumption | exact Below.refl _ _ | (refine Below.setCell ?_ (by first | omega | (simp; done) | (simp; omega)) _) | apply below_drewN | apply Below.drew | (refine Below.alloc ?_ (by first | omega | (simp; done) | (simp; omega)) _))) (hb.mono (by simp; omega)))).mono (by have := hb.size; simp at this; omega)) (by have := hb.size; simp at this; omega) (by have := hb.size; simp at this; omega) (by have := hb.size; simp at this; omega) v hv); rintro e2 W2 ⟨p, rfl, b2, q0, q1, q2⟩; have s2 : w.heap.size + 2 < W2.heap.size := (by have := b2.size; simp at this; omega); have f3 := IntWalk.i64_in (lo + (p : Int)) (by omega); have y0 : W2.cell? ⟨w.heap.size, 0, none⟩ = some (.iface 27 (.agg #[.int .i64 r, .int .i64 c, .slice A n k])) := (b2.cell (p := ⟨w.heap.size, 0, none⟩) (by first | omega | (simp; done) | (simp; omega))).trans (by first | (simp; done) | go_simp); have y1 : W2.cell? ⟨w.heap.size + 1, 0, none⟩ = some (.int .i64 lo) := (b2.cell (p := ⟨w.heap.size + 1, 0, none⟩) (by first | omega | (simp; done) | (simp; omega))).trans (by first | (simp; done) | go_simp); have y2 : W2.cell? ⟨w.heap.size + 1 + 1, 0, none⟩ = some (.int .i64 V) := (b2.cell (p := ⟨w.heap.size + 1 + 1, 0, none⟩) (by first | omega | (simp; done) | (simp; omega))).trans (by exact cell_al3w _ _ _ _ _); have k2 : Below w.heap.size w W2 := (by repeat (first | assumption | exact Below.refl _ _ | (refine Below.trans ?_ (b2.mono (by first | omega | (simp; done) | (simp; omega)))) | (refine Below.setCell ?_ (by first | omega | (simp; done) | (simp; omega)) _) | apply below_drewN | apply Below.drew | (refine Below.alloc ?_ (by first | omega | (simp; done) | (simp; omega)) _)))))
  go_wp2
  go_ret
  exact ⟨p, rfl, k2, q0, q1, q2⟩


end Go.Proofs.Ytagnhlcgfcppjab
