/- Floods: how much water there is at the levels; the least level with enough. -/
import Derived.Test.YthnioohiceohkaaFloD
import Derived.Test.YthnioohiceohkaaSearchD
import Derived.Deep.RegionHeld3
namespace Go.Proofs.Ythnioohiceohkaa
open Go.RowKit

theorem wetN_below {r c lv : Int} {xs : List Int} {n x : Nat} (hx : xs.getD x 0 < lv) (k : Nat) (h : wetN r c lv xs n x k = true) : xs.getD k 0 < lv := by
  have := wetF_least (x := x) (n := n) (nb := nbF r c lv xs n) (M := fun k => decide (xs.getD k 0 < lv)) (decide_eq_true hx) (fun y z _ _ h3 => decide_eq_true (of_decide_eq_true h3).2.2.2) (fun y z h => (nbF_lt y z h).1) k h
  exact of_decide_eq_true this
theorem wetN_mono {r c y z : Int} {xs : List Int} {n x : Nat} (hx : x < n) (hyz : y ≤ z) (k : Nat) (h : wetN r c y xs n x k = true) : wetN r c z xs n x k = true := by
  refine wetF_least (x := x) (n := n) (nb := nbF r c y xs n) (M := wetN r c z xs n x) (wetF_self _ _ _) (fun a b ha h2 h3 => ?_) (fun y z h => (nbF_lt y z h).1) k h
  refine wetF_clo nbF_ltz hx a b ha h2 ?_
  obtain ⟨g1, g2, g3, g4⟩ := of_decide_eq_true h3
  exact decide_eq_true ⟨g1, g2, g3, by omega⟩
theorem wetB_below {r c lv : Int} {xs : List Int} {n x : Nat} (k : Nat) (h : wetB r c lv xs n x k = true) : xs.getD k 0 < lv := by
  unfold wetB at h
  split at h
  · rename_i hx; exact wetN_below hx k h
  · cases h
theorem wetB_mono {r c y z : Int} {xs : List Int} {n x : Nat} (hx : x < n) (hyz : y ≤ z) (k : Nat) (h : wetB r c y xs n x k = true) : wetB r c z xs n x k = true := by
  unfold wetB at h ⊢
  split at h
  · rw [if_pos (by omega)]; exact wetN_mono hx hyz k h
  · cases h
/-- the sum of the first k depths -/
def sdK (lv : Int) (xs : List Int) (M : Nat → Bool) : Nat → Int
  | 0 => 0
  | k + 1 => sdK lv xs M k + depK lv xs M k
theorem sum_depN (lv : Int) (xs : List Int) (M : Nat → Bool) (n : Nat) : ∀ k, k ≤ n → sumN (depN lv xs M n) k = sdK lv xs M k := by
  intro k
  induction k with
  | zero => intro _; rfl
  | succ k ih => intro h; simp only [sumN, sdK]; rw [ih (by omega), depN_at lv xs M n k (by omega)]
/-- how much water floods the land at a level -/
def fvol (r c : Int) (xs : List Int) (n x : Nat) (y : Int) : Int := sumN (depN y xs (wetB r c y xs n x) n) n
theorem fvol_mono {r c : Int} {xs : List Int} {n x : Nat} (_h : LandOk r c xs) (_hl : xs.length = n) (hx : x < n) {y z : Int} (hyz : y ≤ z) : fvol r c xs n x y ≤ fvol r c xs n x z := by
  unfold fvol
  rw [sum_depN _ _ _ n n (Nat.le_refl _), sum_depN _ _ _ n n (Nat.le_refl _)]
  have : ∀ k, sdK y xs (wetB r c y xs n x) k ≤ sdK z xs (wetB r c z xs n x) k := by
    intro k
    induction k with
    | zero => exact Int.le_refl _
    | succ k ih =>
      simp only [sdK]
      have hd : depK y xs (wetB r c y xs n x) k ≤ depK z xs (wetB r c z xs n x) k := by
        unfold depK
        cases h1 : wetB r c y xs n x k
        · cases h2 : wetB r c z xs n x k
          · simp
          · have := wetB_below k h2
            simp at this ⊢
            omega
        · rw [wetB_mono hx hyz k h1]
          simp
          omega
      omega
  exact this n
theorem fvol_low {r c : Int} {xs : List Int} {n x : Nat} {y : Int} (hy : y ≤ xs.getD x 0) : fvol r c xs n x y = 0 := by
  unfold fvol
  rw [sum_depN _ _ _ n n (Nat.le_refl _)]
  have : ∀ k, sdK y xs (wetB r c y xs n x) k = 0 := by
    intro k
    induction k with
    | zero => rfl
    | succ k ih =>
      simp only [sdK]
      rw [ih]
      have e : wetB r c y xs n x = fun _ => false := if_neg (by omega)
      unfold depK
      rw [e]
      simp
  exact this n

set_option maxRecDepth 100000 in
set_option maxHeartbeats 1600000 in
theorem leastCF_t (B1 B2 B3 h N : Nat) (hi : Int) (r c : Int) (A : Option Addr) (n k : Nat) (xs : List Int) (x : Nat) (hx : x < n) (lo V : Int) (w : World) (e : hi = (h : Int)) (hh : h < N) (hN : lo + (N : Int) ≤ 2001) (hlo : -2000 ≤ lo) (hk : LandOk r c xs) (c1 : w.cell? ⟨B1, 0, none⟩ = some (.iface 61 (.agg #[.int .i64 r, .int .i64 c, .slice A n k, .int .i64 (x : Int)]))) (c2 : w.cell? ⟨B2, 0, none⟩ = some (.int .i64 lo)) (c3 : w.cell? ⟨B3, 0, none⟩ = some (.int .i64 V)) (ha : Rd w w.heap.size A n xs) (l1 : B1 < w.heap.size) (l2 : B2 < w.heap.size) (l3 : B3 < w.heap.size) (v : Bool) (hv : v = decide (V ≤ fvol r c xs n x (lo + (h : Int)))) :
    Calls Try.prog 57 #[.int .i64 hi, .pointer (some ⟨B1, 0, none⟩), .pointer (some ⟨B2, 0, none⟩), .pointer (some ⟨B3, 0, none⟩)] w fun e w' => e = .returned (.bool v) ∧ Below w.heap.size w w' := by
  subst e
  have HA := Lib.hid ha
  have HK := Lib.hid hk
  have HV := Lib.hid hv
  clear ha hk hv
  have f1 := IntWalk.i64_in (lo + (h : Int)) (by omega)
  have HY := Lib.hid (show lvl (lo + (h : Int)) by unfold lvl; omega)
  have hm : ∀ (j : Nat) (w : World), (method (j + 1) 61 (.agg #[.int .i64 r, .int .i64 c, .slice A n k, .int .i64 (x : Int)]) "loop.example/g01032/impl.volumeAt").run Try.prog w = .ok (97, .agg #[.int .i64 r, .int .i64 c, .slice A n k, .int .i64 (x : Int)]) w := fun _ _ => by kernel_rfl
  go_enter Try.func57, Try.ntmps57
  go_wp2_with fail
  go_region_held3 (fun w' => w'.cell? ⟨B1, 0, none⟩ = some (.iface 61 (.agg #[.int .i64 r, .int .i64 c, .slice A n k, .int .i64 (x : Int)])) ∧ w'.cell? ⟨B2, 0, none⟩ = some (.int .i64 lo) ∧ w'.cell? ⟨B3, 0, none⟩ = some (.int .i64 V)) (go_keep)
    (first | (go_at_call 97; refine (volumeAt_t r c A n k xs x (lo + (h : Int)) _ HK.out HY.out (show Rd w.drew w.drew.heap.size A n xs from HA.out) hx _ rfl).mono ?_; rintro e1 W1 ⟨rfl, b1⟩; have z1 : W1.cell? ⟨B1, 0, none⟩ = _ := (b1.cell (p := ⟨B1, 0, none⟩) l1).trans c1; have z2 : W1.cell? ⟨B2, 0, none⟩ = _ := (b1.cell (p := ⟨B2, 0, none⟩) l2).trans c2; have z3 : W1.cell? ⟨B3, 0, none⟩ = _ := (b1.cell (p := ⟨B3, 0, none⟩) l3).trans c3; have k1 : Below w.heap.size w W1 := (by repeat (first | assumption | exact Below.refl _ _ | (refine Below.trans ?_ (b1.mono (by first | omega | (simp; done) | (simp; omega)))) | (refine Below.setCell ?_ (by first | omega | (simp; done) | (simp; omega)) _) | apply below_drewN | apply Below.drew | (refine Below.alloc ?_ (by first | omega | (simp; done) | (simp; omega)) _)))))
  go_wp2
  go_ret
  exact ⟨ret_bool HV.out.symm, k1⟩

theorem cell_al3f (w : World) (a b : Obj) (v : Value) (E : TypeId) : (((w.alloc a).alloc b).alloc (.cells #[v] E)).cell? ⟨w.heap.size + 1 + 1, 0, none⟩ = some v := by
  have e : ((w.alloc a).alloc b).heap.size = w.heap.size + 2 := by simp
  rw [← e, World.cell?_alloc_new]
  rfl

set_option maxRecDepth 100000 in
set_option maxHeartbeats 3200000 in
theorem leastF_t (r c : Int) (A : Option Addr) (n k : Nat) (xs : List Int) (x : Nat) (hx : x < n) (lo V : Int) (N : Nat) (w : World) (ha : Rd w w.heap.size A n xs) (hk : LandOk r c xs) (h1 : -2000 ≤ lo) (h2 : lo ≤ 2000) (hN : lo + (N : Int) = 2001) :
    Calls Try.prog 35 #[.iface 61 (.agg #[.int .i64 r, .int .i64 c, .slice A n k, .int .i64 (x : Int)]), .int .i64 lo, .int .i64 2000, .int .i64 V] w fun e w' => ∃ p : Nat, e = .returned (.int .i64 (lo + (p : Int))) ∧ Below w.heap.size w w' ∧ p ≤ N ∧ (∀ j, j < p → ¬ V ≤ fvol r c xs n x (lo + (j : Int))) ∧ (p < N → V ≤ fvol r c xs n x (lo + (p : Int))) := by
  have HLN := Lib.hid ha.1
  have HA := Lib.hid ha
  have HK := Lib.hid hk
  clear ha hk
  have e1 : (2000 : Int) - lo + 1 = (N : Int) := by omega
  have f1 := IntWalk.i64_in (2000 - lo) (by omega)
  have f2 := IntWalk.i64_in (2000 - lo + 1) (by omega)
  have f4 := IntWalk.i64_in (N : Int) (by omega)
  go_enter Try.func35, Try.ntmps35
  go_wp2_with fail
  go_region_held3 (fun w' => w'.cell? ⟨w.heap.size, 0, none⟩ = some (.iface 61 (.agg #[.int .i64 r, .int .i64 c, .slice A n k, .int .i64 (x : Int)])) ∧ w'.cell? ⟨w.heap.size + 1, 0, none⟩ = some (.int .i64 lo) ∧ w'.cell? ⟨w.heap.size + 1 + 1, 0, none⟩ = some (.int .i64 V)) (first | (refine ⟨?_, ?_, ?_⟩ <;> first | exact cell_al3f _ _ _ _ _ | go_keep) | go_keep)
    (first | (go_at_call 56; (try rw [f4]); refine (srch_ll (.pointer (some ⟨w.heap.size, 0, none⟩)) (.pointer (some ⟨w.heap.size + 1, 0, none⟩)) (.pointer (some ⟨w.heap.size + 1 + 1, 0, none⟩)) N (fun j => V ≤ fvol r c xs n x (lo + (j : Int))) (fun a b hab hb hpa => by have := fvol_mono HK.out HLN.out hx (y := lo + (a : Int)) (z := lo + (b : Int)) (by omega); omega) _ (by omega) ?hcl).mono ?_; (case hcl => exact fun i j W v hi hj hb hv => leastCF_t _ _ _ j N i r c A n k xs x hx lo V W hi hj (by omega) h1 HK.out ((hb.cell (p := ⟨w.heap.size, 0, none⟩) (by first | omega | (simp; done) | (simp; omega))).trans (by first | (simp; done) | go_simp)) ((hb.cell (p := ⟨w.heap.size + 1, 0, none⟩) (by first | omega | (simp; done) | (simp; omega))).trans (by first | (simp; done) | go_simp)) ((hb.cell (p := ⟨w.heap.size + 1 + 1, 0, none⟩) (by first | omega | (simp; done) | (simp; omega))).trans (by exact cell_al3f _ _ _ _ _)) ((HA.out.below (Below.trans (by repeat (first | assumption | exact Below.refl _ _ | (refine Below.setCell ?_ (by first | omega | (simp; done) | (simp; omega)) _) | apply below_drewN | apply Below.drew | (refine Below.alloc ?_ (by first | omega | (simp; done) | (simp; omega)) _))) (hb.mono (by simp; omega)))).mono (by have := hb.size; simp at this; omega)) (by have := hb.size; simp at this; omega) (by have := hb.size; simp at this; omega) (by have := hb.size; simp at this; omega) v hv); rintro e2 W2 ⟨p, rfl, b2, q0, q1, q2⟩; have s2 : w.heap.size + 2 < W2.heap.size := (by have := b2.size; simp at this; omega); have f3 := IntWalk.i64_in (lo + (p : Int)) (by omega); have y0 : W2.cell? ⟨w.heap.size, 0, none⟩ = some (.iface 61 (.agg #[.int .i64 r, .int .i64 c, .slice A n k, .int .i64 (x : Int)])) := (b2.cell (p := ⟨w.heap.size, 0, none⟩) (by first | omega | (simp; done) | (simp; omega))).trans (by first | (simp; done) | go_simp); have y1 : W2.cell? ⟨w.heap.size + 1, 0, none⟩ = some (.int .i64 lo) := (b2.cell (p := ⟨w.heap.size + 1, 0, none⟩) (by first | omega | (simp; done) | (simp; omega))).trans (by first | (simp; done) | go_simp); have y2 : W2.cell? ⟨w.heap.size + 1 + 1, 0, none⟩ = some (.int .i64 V) := (b2.cell (p := ⟨w.heap.size + 1 + 1, 0, none⟩) (by first | omega | (simp; done) | (simp; omega))).trans (by exact cell_al3f _ _ _ _ _); have k2 : Below w.heap.size w W2 := (by repeat (first | assumption | exact Below.refl _ _ | (refine Below.trans ?_ (b2.mono (by first | omega | (simp; done) | (simp; omega)))) | (refine Below.setCell ?_ (by first | omega | (simp; done) | (simp; omega)) _) | apply below_drewN | apply Below.drew | (refine Below.alloc ?_ (by first | omega | (simp; done) | (simp; omega)) _)))))
  go_wp2
  go_ret
  exact ⟨p, rfl, k2, q0, q1, q2⟩



end Go.Proofs.Ythnioohiceohkaa
