/- The least level up to which a storage takes some water: leastLevel, at a curve behind the interface. -/
import Derived.Test.YtfpfmfhhcgafcabDoorCurveV
import Derived.Test.YtfpfmfhhcgafcabDoorSearchD
import Derived.Deep.RegionHeld3
namespace Go.Proofs.YtfpfmfhhcgafcabDoor
open Go.RowKit

set_option maxRecDepth 100000 in
set_option maxHeartbeats 1600000 in
theorem leastCC_t (B1 B2 B3 h : Nat) (hi : Int) (A0 : Option Addr) (n0 k0 : Nat) (ls : List Int) (A1 : Option Addr) (n1 k1 : Nat) (vs : List Int) (x V : Int) (w : World) (e : hi = (h : Int)) (hn0 : n0 ≤ 1048576) (hx : x = ls.getD 0 0) (hh : h ≤ span ls) (hc : CurveOk ls vs) (c1 : w.cell? ⟨B1, 0, none⟩ = some (.iface 30 (.agg #[.slice A0 n0 k0, .slice A1 n1 k1]))) (c2 : w.cell? ⟨B2, 0, none⟩ = some (.int .i64 x)) (c3 : w.cell? ⟨B3, 0, none⟩ = some (.int .i64 V)) (ha : Rd w w.heap.size A0 n0 ls) (hv : Rd w w.heap.size A1 n1 vs) (l1 : B1 < w.heap.size) (l2 : B2 < w.heap.size) (l3 : B3 < w.heap.size) (q : Bool) (hq : q = decide (enough ls vs V h)) :
    Calls Tryd.prog 59 #[.int .i64 hi, .pointer (some ⟨B1, 0, none⟩), .pointer (some ⟨B2, 0, none⟩), .pointer (some ⟨B3, 0, none⟩)] w fun e w' => e = .returned (.bool q) ∧ Below w.heap.size w w' := by
  subst e
  have hl0 := ha.1
  have HA := Lib.hid ha
  have HV := Lib.hid hv
  have HC := Lib.hid hc
  have h12 := hc.1
  have bd := (hc.2.2.1).bd (show 0 < ls.length by omega)
  have hsp := span_eq hc
  have bd2 := (hc.2.2.1).bd (show ls.length - 1 < ls.length by omega)
  have HY := Lib.hid (show onC ls (x + (h : Int)) by rw [hx]; exact onC_at hc (by omega))
  obtain ⟨u, hu⟩ : ∃ u, u = vAt ls vs (x + (h : Int)) := ⟨_, rfl⟩
  have HU := Lib.hid hu
  have HQ := Lib.hid (show q = decide (V ≤ u) by rw [hq]; exact decide_eq_decide.2 (by rw [hu, hx]; exact Iff.rfl))
  have f1 := IntWalk.i64_in (x + (h : Int)) (by omega)
  clear ha hv hc hx hu hq bd bd2 hsp
  have hm : ∀ (j : Nat) (w : World), (method (j + 1) 30 (.agg #[.slice A0 n0 k0, .slice A1 n1 k1]) "loop.example/g01032/impl.volumeAt").run Tryd.prog w = .ok (29, .agg #[.slice A0 n0 k0, .slice A1 n1 k1]) w := fun _ _ => by kernel_rfl
  go_enter Tryd.func59, Tryd.ntmps59
  go_wp2_with fail
  go_region_held3 (fun w' => w'.cell? ⟨B1, 0, none⟩ = some (.iface 30 (.agg #[.slice A0 n0 k0, .slice A1 n1 k1])) ∧ w'.cell? ⟨B2, 0, none⟩ = some (.int .i64 x) ∧ w'.cell? ⟨B3, 0, none⟩ = some (.int .i64 V)) (go_keep)
    (first | (go_at_call 29; refine (volumeAt_t _ n0 k0 ls _ n1 k1 vs _ _ hn0 ((HA.out.below (by repeat (first | assumption | exact Below.refl _ _ | (refine Below.setCell ?_ (by first | omega | (simp; done) | (simp; omega)) _) | apply below_drewN | apply Below.drew | (refine Below.alloc ?_ (by first | omega | (simp; done) | (simp; omega)) _)))).mono (by first | omega | (simp; done) | (simp; omega))) ((HV.out.below (by repeat (first | assumption | exact Below.refl _ _ | (refine Below.setCell ?_ (by first | omega | (simp; done) | (simp; omega)) _) | apply below_drewN | apply Below.drew | (refine Below.alloc ?_ (by first | omega | (simp; done) | (simp; omega)) _)))).mono (by first | omega | (simp; done) | (simp; omega))) HC.out HY.out).mono ?_; rintro e1 W1 ⟨rfl, b1⟩; rw [← HU.out]; have z1 : W1.cell? ⟨B1, 0, none⟩ = _ := (b1.cell (p := ⟨B1, 0, none⟩) l1).trans c1; have z2 : W1.cell? ⟨B2, 0, none⟩ = _ := (b1.cell (p := ⟨B2, 0, none⟩) l2).trans c2; have z3 : W1.cell? ⟨B3, 0, none⟩ = _ := (b1.cell (p := ⟨B3, 0, none⟩) l3).trans c3; have k1 : Below w.heap.size w W1 := (by repeat (first | assumption | exact Below.refl _ _ | (refine Below.trans ?_ (b1.mono (by first | omega | (simp; done) | (simp; omega)))) | (refine Below.setCell ?_ (by first | omega | (simp; done) | (simp; omega)) _) | apply below_drewN | apply Below.drew | (refine Below.alloc ?_ (by first | omega | (simp; done) | (simp; omega)) _)))))
  go_wp2
  go_ret
  exact ⟨ret_bool HQ.out.symm, k1⟩

theorem cell_al3c (w : World) (a b : Obj) (v : Value) (E : TypeId) : (((w.alloc a).alloc b).alloc (.cells #[v] E)).cell? ⟨w.heap.size + 1 + 1, 0, none⟩ = some v := by
  have e : ((w.alloc a).alloc b).heap.size = w.heap.size + 2 := by simp
  rw [← e, World.cell?_alloc_new]
  rfl

set_option maxRecDepth 100000 in
set_option maxHeartbeats 3200000 in
theorem leastC_t (A0 : Option Addr) (n0 k0 : Nat) (ls : List Int) (A1 : Option Addr) (n1 k1 : Nat) (vs : List Int) (x z V : Int) (N : Nat) (w : World) (hn0 : n0 ≤ 1048576) (ha : Rd w w.heap.size A0 n0 ls) (hv : Rd w w.heap.size A1 n1 vs) (hc : CurveOk ls vs) (hx : x = ls.getD 0 0) (hz : z = ls.getD (ls.length - 1) 0) (hN : N = span ls + 1) (hV : V ≤ vs.getD (vs.length - 1) 0) :
    Calls Tryd.prog 48 #[.iface 30 (.agg #[.slice A0 n0 k0, .slice A1 n1 k1]), .int .i64 x, .int .i64 z, .int .i64 V] w fun e w' => e = .returned (.int .i64 (lvAt ls vs V)) ∧ Below w.heap.size w w' := by
  have HA := Lib.hid ha
  have HW := Lib.hid hv
  have HC := Lib.hid hc
  have HX := Lib.hid hx
  have h12 := hc.1
  have hsp := span_eq hc
  have bd0 := (hc.2.2.1).bd (show 0 < ls.length by omega)
  have bd1 := (hc.2.2.1).bd (show ls.length - 1 < ls.length by omega)
  rw [← hx, ← hz] at hsp
  rw [← hx] at bd0
  rw [← hz] at bd1
  have hen : enough ls vs V (span ls) := by
    unfold enough
    rw [← hx, show x + ((span ls : Nat) : Int) = z by omega, hz, vAt_last hc]
    exact hV
  have HE := Lib.hid hen
  have e1 : z - x + 1 = (N : Int) := by omega
  have hn : N ≤ 4001 := by omega
  have HN := Lib.hid hN
  have f1 := IntWalk.i64_in (z - x) (by omega)
  have f2 := IntWalk.i64_in (z - x + 1) (by omega)
  have f4 := IntWalk.i64_in (N : Int) (by omega)
  have HM := Lib.hid (show ∀ a b, a ≤ b → b < N → enough ls vs V a → enough ls vs V b from fun a b hab hb => enough_mono hc V a b hab (by omega))
  have HL := Lib.hid (show ∀ p : Nat, p ≤ N → (∀ k, k < p → ¬ enough ls vs V k) → (p < N → enough ls vs V p) → x + (p : Int) = lvAt ls vs V ∧ -1000000 ≤ x + (p : Int) ∧ x + (p : Int) ≤ 1000000 from fun p q0 q1 q2 => by
    have hps : p ≤ span ls := by
      by_cases hp : p ≤ span ls
      · exact hp
      · exact absurd hen (q1 _ (by omega))
    refine ⟨?_, by omega, by omega⟩
    rw [lvAt_eq hc hps q1 (fun _ => q2 (by omega)), hx])
  clear ha hv hc hx hz hsp bd0 bd1 hen hV hN
  go_enter Tryd.func48, Tryd.ntmps48
  go_wp2_with fail
  go_region_held3 (fun w' => w'.cell? ⟨w.heap.size, 0, none⟩ = some (.iface 30 (.agg #[.slice A0 n0 k0, .slice A1 n1 k1])) ∧ w'.cell? ⟨w.heap.size + 1, 0, none⟩ = some (.int .i64 x) ∧ w'.cell? ⟨w.heap.size + 1 + 1, 0, none⟩ = some (.int .i64 V)) (first | (refine ⟨?_, ?_, ?_⟩ <;> first | exact cell_al3c _ _ _ _ _ | go_keep) | go_keep)
    (first | (go_at_call 57; (try rw [f4]); refine (srch_ll (.pointer (some ⟨w.heap.size, 0, none⟩)) (.pointer (some ⟨w.heap.size + 1, 0, none⟩)) (.pointer (some ⟨w.heap.size + 1 + 1, 0, none⟩)) N (enough ls vs V) HM.out _ (by omega) ?hcl).mono ?_; (case hcl => exact fun i j W v hi hj hb hv => leastCC_t _ _ _ j i A0 n0 k0 ls A1 n1 k1 vs x V W hi hn0 HX.out (by have := HN.out; omega) HC.out ((hb.cell (p := ⟨w.heap.size, 0, none⟩) (by first | omega | (simp; done) | (simp; omega))).trans (by first | (simp; done) | go_simp)) ((hb.cell (p := ⟨w.heap.size + 1, 0, none⟩) (by first | omega | (simp; done) | (simp; omega))).trans (by first | (simp; done) | go_simp)) ((hb.cell (p := ⟨w.heap.size + 1 + 1, 0, none⟩) (by first | omega | (simp; done) | (simp; omega))).trans (by exact cell_al3c _ _ _ _ _)) ((HA.out.below (Below.trans (by repeat (first | assumption | exact Below.refl _ _ | (refine Below.setCell ?_ (by first | omega | (simp; done) | (simp; omega)) _) | apply below_drewN | apply Below.drew | (refine Below.alloc ?_ (by first | omega | (simp; done) | (simp; omega)) _))) (hb.mono (by simp; omega)))).mono (by have := hb.size; simp at this; omega)) ((HW.out.below (Below.trans (by repeat (first | assumption | exact Below.refl _ _ | (refine Below.setCell ?_ (by first | omega | (simp; done) | (simp; omega)) _) | apply below_drewN | apply Below.drew | (refine Below.alloc ?_ (by first | omega | (simp; done) | (simp; omega)) _))) (hb.mono (by simp; omega)))).mono (by have := hb.size; simp at this; omega)) (by have := hb.size; simp at this; omega) (by have := hb.size; simp at this; omega) (by have := hb.size; simp at this; omega) v hv); rintro e2 W2 ⟨p, rfl, b2, q0, q1, q2⟩; obtain ⟨hlv, hb1, hb2⟩ := HL.out p q0 q1 q2; have HLV := Lib.hid hlv; clear hlv q1 q2; have s2 : w.heap.size + 2 < W2.heap.size := (by have := b2.size; simp at this; omega); have f3 := IntWalk.i64_in (x + (p : Int)) (by omega); have y0 : W2.cell? ⟨w.heap.size, 0, none⟩ = some (.iface 30 (.agg #[.slice A0 n0 k0, .slice A1 n1 k1])) := (b2.cell (p := ⟨w.heap.size, 0, none⟩) (by first | omega | (simp; done) | (simp; omega))).trans (by first | (simp; done) | go_simp); have y1 : W2.cell? ⟨w.heap.size + 1, 0, none⟩ = some (.int .i64 x) := (b2.cell (p := ⟨w.heap.size + 1, 0, none⟩) (by first | omega | (simp; done) | (simp; omega))).trans (by first | (simp; done) | go_simp); have y2 : W2.cell? ⟨w.heap.size + 1 + 1, 0, none⟩ = some (.int .i64 V) := (b2.cell (p := ⟨w.heap.size + 1 + 1, 0, none⟩) (by first | omega | (simp; done) | (simp; omega))).trans (by exact cell_al3c _ _ _ _ _); have k2 : Below w.heap.size w W2 := (by repeat (first | assumption | exact Below.refl _ _ | (refine Below.trans ?_ (b2.mono (by first | omega | (simp; done) | (simp; omega)))) | (refine Below.setCell ?_ (by first | omega | (simp; done) | (simp; omega)) _) | apply below_drewN | apply Below.drew | (refine Below.alloc ?_ (by first | omega | (simp; done) | (simp; omega)) _)))))
  go_wp2
  go_ret
  exact ⟨ret_int HLV.out, k2⟩


end Go.Proofs.YtfpfmfhhcgafcabDoor
