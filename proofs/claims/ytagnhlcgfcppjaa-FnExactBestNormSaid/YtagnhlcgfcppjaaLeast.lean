/- The least level up to which a dike takes some clay: leastLevel, at a dike behind the interface. -/
import Derived.Test.YtagnhlcgfcppjaaDikeR
import Derived.Test.YtagnhlcgfcppjaaSearchD
import Derived.Deep.RegionHeld3
namespace Go.Proofs.Ytagnhlcgfcppjaa
open Go.RowKit

set_option maxRecDepth 100000 in
set_option maxHeartbeats 1600000 in
theorem leastCl_t (B1 B2 B3 h N : Nat) (hi : Int) (A : Option Addr) (n c : Nat) (xs : List RSection) (lo vol : Int) (w : World) (e : hi = (h : Int)) (hh : h < N) (hN : lo + (N : Int) ≤ 2001) (hlo : -2000 ≤ lo) (hn : n ≤ 1048576) (hk : DkOk n xs) (c1 : w.cell? ⟨B1, 0, none⟩ = some (.iface 68 (.slice A n c))) (c2 : w.cell? ⟨B2, 0, none⟩ = some (.int .i64 lo)) (c3 : w.cell? ⟨B3, 0, none⟩ = some (.int .i64 vol)) (ha : Rd_Section w w.heap.size A n xs) (l1 : B1 < w.heap.size) (l2 : B2 < w.heap.size) (l3 : B3 < w.heap.size) (v : Bool) (hv : v = decide (vol ≤ clay xs n (lo + (h : Int)))) :
    Calls Try.prog 90 #[.int .i64 hi, .pointer (some ⟨B1, 0, none⟩), .pointer (some ⟨B2, 0, none⟩), .pointer (some ⟨B3, 0, none⟩)] w fun e w' => e = .returned (.bool v) ∧ Below w.heap.size w w' := by
  subst e
  have HA := Lib.hid ha
  have HK := Lib.hid hk
  have HV := Lib.hid hv
  clear ha hk hv
  have f1 := IntWalk.i64_in (lo + (h : Int)) (by omega)
  have HY := Lib.hid (show -2000 ≤ lo + (h : Int) ∧ lo + (h : Int) ≤ 2001 by omega)
  have hm : ∀ (k : Nat) (w : World), (method (k + 1) 68 (.slice A n c) "loop.example/g01032/impl.volumeAt").run Try.prog w = .ok (70, .slice A n c) w := fun _ _ => by kernel_rfl
  go_enter Try.func90, Try.ntmps90
  go_wp2_with fail
  go_region_held3 (fun w' => w'.cell? ⟨B1, 0, none⟩ = some (.iface 68 (.slice A n c)) ∧ w'.cell? ⟨B2, 0, none⟩ = some (.int .i64 lo) ∧ w'.cell? ⟨B3, 0, none⟩ = some (.int .i64 vol)) (go_keep)
    (first | (go_at_call 70; refine (volumeI_t _ _ _ xs _ _ hn ((HA.out.below (by repeat (first | assumption | exact Below.refl _ _ | (refine Below.setCell ?_ (by first | omega | (simp; done) | (simp; omega)) _) | apply below_drewN | apply Below.drew | (refine Below.alloc ?_ (by first | omega | (simp; done) | (simp; omega)) _)))).mono (by first | omega | (simp; done) | (simp; omega))) HK.out HY.out).mono ?_; rintro e1 W1 ⟨rfl, b1⟩; have z1 : W1.cell? ⟨B1, 0, none⟩ = _ := (b1.cell (p := ⟨B1, 0, none⟩) l1).trans c1; have z2 : W1.cell? ⟨B2, 0, none⟩ = _ := (b1.cell (p := ⟨B2, 0, none⟩) l2).trans c2; have z3 : W1.cell? ⟨B3, 0, none⟩ = _ := (b1.cell (p := ⟨B3, 0, none⟩) l3).trans c3; have k1 : Below w.heap.size w W1 := (by repeat (first | assumption | exact Below.refl _ _ | (refine Below.trans ?_ (b1.mono (by first | omega | (simp; done) | (simp; omega)))) | (refine Below.setCell ?_ (by first | omega | (simp; done) | (simp; omega)) _) | apply below_drewN | apply Below.drew | (refine Below.alloc ?_ (by first | omega | (simp; done) | (simp; omega)) _)))))
  go_wp2
  go_ret
  exact ⟨ret_bool HV.out.symm, k1⟩

theorem cell_al3 (w : World) (a b : Obj) (v : Value) (E : TypeId) : (((w.alloc a).alloc b).alloc (.cells #[v] E)).cell? ⟨w.heap.size + 1 + 1, 0, none⟩ = some v := by
  have e : ((w.alloc a).alloc b).heap.size = w.heap.size + 2 := by simp
  rw [← e, World.cell?_alloc_new]
  rfl

set_option maxRecDepth 100000 in
set_option maxHeartbeats 3200000 in
theorem leastD_t (A : Option Addr) (n c : Nat) (xs : List RSection) (lo vol : Int) (N : Nat) (w : World) (hn : n ≤ 1048576) (ha : Rd_Section w w.heap.size A n xs) (hk : DkOk n xs) (h1 : -2000 ≤ lo) (h2 : lo ≤ 2000) (hN : lo + (N : Int) = 2001) :
    Calls Try.prog 72 #[.iface 68 (.slice A n c), .int .i64 lo, .int .i64 2000, .int .i64 vol] w fun e w' => ∃ p : Nat, e = .returned (.int .i64 (lo + (p : Int))) ∧ Below w.heap.size w w' ∧ p ≤ N ∧ (∀ k, k < p → ¬ vol ≤ clay xs n (lo + (k : Int))) ∧ (p < N → vol ≤ clay xs n (lo + (p : Int))) := by
  have HA := Lib.hid ha
  have HK := Lib.hid hk
  clear ha hk
  have e1 : (2000 : Int) - lo + 1 = (N : Int) := by omega
  have f1 := IntWalk.i64_in (2000 - lo) (by omega)
  have f2 := IntWalk.i64_in (2000 - lo + 1) (by omega)
  have f4 := IntWalk.i64_in (N : Int) (by omega)
  go_enter Try.func72, Try.ntmps72
  go_wp2_with fail
  go_region_held3 (fun w' => w'.cell? ⟨w.heap.size, 0, none⟩ = some (.iface 68 (.slice A n c)) ∧ w'.cell? ⟨w.heap.size + 1, 0, none⟩ = some (.int .i64 lo) ∧ w'.cell? ⟨w.heap.size + 1 + 1, 0, none⟩ = some (.int .i64 vol)) (first | (refine ⟨?_, ?_, ?_⟩ <;> first | exact cell_al3 _ _ _ _ _ | go_keep) | go_keep)
    (first | (go_at_call 86; (try rw [f4]); refine (srch_ll (.pointer (some ⟨w.heap.size, 0, none⟩)) (.pointer (some ⟨w.heap.size + 1, 0, none⟩)) (.pointer (some ⟨w.heap.size + 1 + 1, 0, none⟩)) N (fun j => vol ≤ clay xs n (lo + (j : Int))) (fun a b hab hb hpa => by have := clay_mono HK.out (show lo + (a : Int) ≤ lo + (b : Int) by omega); omega) _ (by omega) ?hcl).mono ?_; (case hcl => exact fun i j W v hi hj hb hv => leastCl_t _ _ _ j N i A n c xs lo vol W hi hj (by omega) h1 hn HK.out ((hb.cell (p := ⟨w.heap.size, 0, none⟩) (by first | omega | (simp; done) | (simp; omega))).trans (by first | (simp; done) | go_simp)) ((hb.cell (p := ⟨w.heap.size + 1, 0, none⟩) (by first | omega | (simp; done) | (simp; omega))).trans (by first | (simp; done) | go_simp)) ((hb.cell (p := ⟨w.heap.size + 1 + 1, 0, none⟩) (by first | omega | (simp; done) | (simp; omega))).trans (by exact cell_al3 _ _ _ _ _)) ((HA.out.below (Below.trans (by repeat (first | assumption | exact Below.refl _ _ | (refine Below.setCell ?_ (by first | omega | (simp; done) | (simp; omega)) _) | apply below_drewN | apply Below.drew | (refine Below.alloc ?_ (by first | omega | (simp; done) | (simp; omega)) _))) (hb.mono (by simp; omega)))).mono (by have := hb.size; simp at this; omega)) (by have := hb.size; simp at this; omega) (by have := hb.size; simp at this; omega) (by have := hb.size; simp at this; omega) v hv); rintro e2 W2 ⟨p, rfl, b2, q0, q1, q2⟩; have s2 : w.heap.size + 2 < W2.heap.size := (by have := b2.size; simp at this; omega); have f3 := IntWalk.i64_in (lo + (p : Int)) (by omega); have y0 : W2.cell? ⟨w.heap.size, 0, none⟩ = some (.iface 68 (.slice A n c)) := (b2.cell (p := ⟨w.heap.size, 0, none⟩) (by first | omega | (simp; done) | (simp; omega))).trans (by first | (simp; done) | go_simp); have y1 : W2.cell? ⟨w.heap.size + 1, 0, none⟩ = some (.int .i64 lo) := (b2.cell (p := ⟨w.heap.size + 1, 0, none⟩) (by first | omega | (simp; done) | (simp; omega))).trans (by first | (simp; done) | go_simp); have y2 : W2.cell? ⟨w.heap.size + 1 + 1, 0, none⟩ = some (.int .i64 vol) := (b2.cell (p := ⟨w.heap.size + 1 + 1, 0, none⟩) (by first | omega | (simp; done) | (simp; omega))).trans (by exact cell_al3 _ _ _ _ _); have k2 : Below w.heap.size w W2 := (by repeat (first | assumption | exact Below.refl _ _ | (refine Below.trans ?_ (b2.mono (by first | omega | (simp; done) | (simp; omega)))) | (refine Below.setCell ?_ (by first | omega | (simp; done) | (simp; omega)) _) | apply below_drewN | apply Below.drew | (refine Below.alloc ?_ (by first | omega | (simp; done) | (simp; omega)) _)))))
  go_wp2
  go_ret
  exact ⟨p, rfl, k2, q0, q1, q2⟩

set_option maxHeartbeats 800000 in
theorem floorD_t (a m : Int) (w : World) (h1 : -10000 ≤ a) (h2 : a ≤ 10000) (hm : a / 2 = m) :
    Calls Try.prog 71 #[.int .i64 a, .int .i64 2] w fun e w' => e = .returned (.int .i64 m) ∧ w = w' := by
  have HM := Lib.hid hm
  clear hm
  by_cases h : 0 ≤ a
  · have h3 : 0 ≤ a % 2 := by omega
    go_enter Try.func71, Try.ntmps71
    go_wp2
    go_ret
    exact ⟨ret_int HM.out, rfl⟩
  · have q1 : a.tdiv 2 = -((-a) / 2) := by rw [show a = -(-a) by omega, Int.neg_tdiv, Int.tdiv_eq_ediv_of_nonneg (by omega)]; simp
    have q2 : a.tmod 2 = -((-a) % 2) := by rw [show a = -(-a) by omega, Int.neg_tmod, Int.tmod_eq_emod_of_nonneg (by omega)]; simp
    have Q1 := Lib.hid q1
    have b1 : -5000 ≤ a.tdiv 2 := by omega
    have b2 : a.tdiv 2 ≤ 5000 := by omega
    by_cases ho : (-a) % 2 = 1
    · have b3 : a.tmod 2 < 0 := by omega
      have HE := Lib.hid (show a.tdiv 2 - 1 = m by have := HM.out; omega)
      clear q1 q2 ho
      go_enter Try.func71, Try.ntmps71
      go_wp2
      go_ret
      exact ⟨ret_int HE.out, rfl⟩
    · have b3 : ¬ a.tmod 2 < 0 := by omega
      have HE := Lib.hid (show a.tdiv 2 = m by have := HM.out; omega)
      clear q1 q2 ho
      go_enter Try.func71, Try.ntmps71
      go_wp2
      go_ret
      exact ⟨ret_int HE.out, rfl⟩


end Go.Proofs.Ytagnhlcgfcppjaa
