import Derived.Test.YtfpfmfhhcgafcaaWatL
import Derived.BigQuiet
namespace Go.Proofs.Ytfpfmfhhcgafcaa
open Go.RowKit

theorem ext_W {xs ys : List RWater} (hl : xs.length = ys.length) (h : ∀ j, j < xs.length → xs.getD j zWater = ys.getD j zWater) : xs = ys := by
  refine List.ext_getElem hl (fun j h1 h2 => ?_)
  have := h j h1
  rwa [getDWater h1, getDWater h2] at this

set_option maxHeartbeats 1600000 in
theorem slEqualW_t (A B : Option Addr) (n c m d : Nat) (xs ys : List RWater) (w : World) (hn : n ≤ 1048576) (hm : m ≤ 1048576) (ha : Rd_Water w w.heap.size A n xs) (hb : Rd_Water w w.heap.size B m ys) (v : Bool) (hv : v = decide (xs = ys)) :
    Calls Try.prog 45 #[.slice A n c, .slice B m d] w fun e w' => e = .returned (.bool v) ∧ Below w.heap.size w w' := by
  by_cases hnm : n = m
  · subst hnm
    have h0 : ((n : Int) != (n : Int)) = false := by simp
    have hg := guardWater
    have HA := Lib.hid ha
    have HB := Lib.hid hb
    have HV := Lib.hid hv
    clear ha hb hv
    go_enter Try.func45, Try.ntmps45
    go_wp2
    go_loopw [5, 13] (fun _ i wr => ∃ k m : Nat, k ≤ n ∧ i = .int .i64 (k : Int) ∧ wr = w.drewN m ∧ Hid (∀ j, j < k → xs.getD j zWater = ys.getD j zWater)) (fun _ i _ => n - (intOf i).toNat)
    case atStart => exact ⟨0, 0, by omega, rfl, rfl, fun j hj => absurd hj (by omega)⟩
    case round =>
      obtain ⟨k, m, hk, rfl, rfl, hr⟩ := hrel
      by_cases hlt : k < n
      · obtain ⟨b, o, rfl, hbB, hc⟩ := HA.out.at (by omega)
        obtain ⟨b', o', rfl, hbB', hc'⟩ := HB.out.at (by omega)
        have p := hc k hlt
        have p' := hc' k hlt
        clear hc hc'
        obtain ⟨x, hx⟩ := getZW xs k
        obtain ⟨y, hy⟩ := getZW ys k
        rw [← hx] at p
        rw [← hy] at p'
        have HX := Lib.hid hx
        have HY := Lib.hid hy
        clear hx hy
        obtain ⟨x0, x1, x2, x3, x4⟩ := x
        obtain ⟨y0, y1, y2, y3, y4⟩ := y
        obtain ⟨p0, p1, p2, p3, p4⟩ := p
        obtain ⟨p0', p1', p2', p3', p4'⟩ := p'
        simp only at p0 p1 p2 p3 p4 p0' p1' p2' p3' p4'
        by_cases he : (⟨x0, x1, x2, x3, x4⟩ : RWater) = ⟨y0, y1, y2, y3, y4⟩
        · have e1 := neqWater x0 x1 x2 x3 x4 y0 y1 y2 y3 y4 false (by rw [decide_eq_true he]; rfl)
          have HE := Lib.hid he
          clear he
          go_wp2
          go_quiet (fail)
          go_wp2
          go_roundw
          case rel => exact ⟨k + 1, _, by omega, by go_num, rfl, fun j hj => by
            by_cases e : j = k
            · subst e; rw [← HX.out, ← HY.out]; exact HE.out
            · exact hr.out j (by omega)⟩
          case measure => simp [intOf]; omega
        · have e1 := neqWater x0 x1 x2 x3 x4 y0 y1 y2 y3 y4 true (by rw [decide_eq_false he]; rfl)
          have HE := Lib.hid he
          clear he
          go_wp2
          go_quiet (fail)
          go_wp2
          go_ret
          refine ⟨ret_bool ?_, (by repeat (first | assumption | exact Below.refl _ _ | (refine Below.setCell ?_ (by first | omega | (simp; done) | (simp; omega)) _) | apply below_drewN | apply Below.drew | (refine Below.alloc ?_ (by first | omega | (simp; done) | (simp; omega)) _)))⟩
          rw [HV.out]
          exact (decide_eq_false (fun h => HE.out (by rw [HX.out, HY.out, h]))).symm
      · obtain rfl : k = n := by omega
        go_wp2
        go_ret
        refine ⟨ret_bool ?_, (by repeat (first | assumption | exact Below.refl _ _ | (refine Below.setCell ?_ (by first | omega | (simp; done) | (simp; omega)) _) | apply below_drewN | apply Below.drew | (refine Below.alloc ?_ (by first | omega | (simp; done) | (simp; omega)) _)))⟩
        rw [HV.out]
        exact (decide_eq_true (ext_W (by rw [HA.out.len, HB.out.len]) (fun j hj => hr.out j (by rw [HA.out.len] at hj; exact hj)))).symm
  · have h0 : ((n : Int) != (m : Int)) = true := by simp; omega
    have hf : v = false := by rw [hv]; exact decide_eq_false (fun h => hnm (by rw [← ha.len, ← hb.len, h]))
    have HF := Lib.hid hf
    clear hv hf hnm
    go_enter Try.func45, Try.ntmps45
    go_wp2
    go_ret
    exact ⟨ret_bool HF.out.symm, Below.refl _ _⟩

set_option maxHeartbeats 1600000 in
theorem sameW_t (A B : Option Addr) (n c m d : Nat) (xs ys : List RWater) (w : World) (hn : n ≤ 1048576) (hm : m ≤ 1048576) (ha : Rd_Water w w.heap.size A n xs) (hb : Rd_Water w w.heap.size B m ys) (v : Bool) (hv : v = decide (xs = ys)) :
    Calls Try.prog 17 #[.slice A n c, .slice B m d] w fun e w' => e = .returned (.bool v) ∧ Below w.heap.size w w' := by
  by_cases hnm : n = m
  · subst hnm
    have h0 : ((n : Int) != (n : Int)) = false := by simp
    have hg := guardWater
    have HA := Lib.hid ha
    have HB := Lib.hid hb
    have HV := Lib.hid hv
    clear ha hb hv
    go_enter Try.func17, Try.ntmps17
    go_wp2
    go_loopw [5] (fun  i wr => ∃ k m : Nat, k ≤ n ∧ i = .int .i64 (k : Int) ∧ wr = w.drewN m ∧ Hid (∀ j, j < k → xs.getD j zWater = ys.getD j zWater)) (fun  i _ => n - (intOf i).toNat)
    case atStart => exact ⟨0, 0, by omega, rfl, rfl, fun j hj => absurd hj (by omega)⟩
    case round =>
      obtain ⟨k, m, hk, rfl, rfl, hr⟩ := hrel
      by_cases hlt : k < n
      · obtain ⟨b, o, rfl, hbB, hc⟩ := HA.out.at (by omega)
        obtain ⟨b', o', rfl, hbB', hc'⟩ := HB.out.at (by omega)
        have p := hc k hlt
        have p' := hc' k hlt
        clear hc hc'
        obtain ⟨x, hx⟩ := getZW xs k
        obtain ⟨y, hy⟩ := getZW ys k
        rw [← hx] at p
        rw [← hy] at p'
        have HX := Lib.hid hx
        have HY := Lib.hid hy
        clear hx hy
        obtain ⟨x0, x1, x2, x3, x4⟩ := x
        obtain ⟨y0, y1, y2, y3, y4⟩ := y
        obtain ⟨p0, p1, p2, p3, p4⟩ := p
        obtain ⟨p0', p1', p2', p3', p4'⟩ := p'
        simp only at p0 p1 p2 p3 p4 p0' p1' p2' p3' p4'
        by_cases he : (⟨x0, x1, x2, x3, x4⟩ : RWater) = ⟨y0, y1, y2, y3, y4⟩
        · have e1 := neqWater x0 x1 x2 x3 x4 y0 y1 y2 y3 y4 false (by rw [decide_eq_true he]; rfl)
          have HE := Lib.hid he
          clear he
          go_wp2
          go_quiet (fail)
          go_wp2
          go_roundw
          case rel => exact ⟨k + 1, _, by omega, by go_num, rfl, fun j hj => by
            by_cases e : j = k
            · subst e; rw [← HX.out, ← HY.out]; exact HE.out
            · exact hr.out j (by omega)⟩
          case measure => simp [intOf]; omega
        · have e1 := neqWater x0 x1 x2 x3 x4 y0 y1 y2 y3 y4 true (by rw [decide_eq_false he]; rfl)
          have HE := Lib.hid he
          clear he
          go_wp2
          go_quiet (fail)
          go_wp2
          go_ret
          refine ⟨ret_bool ?_, (by repeat (first | assumption | exact Below.refl _ _ | (refine Below.setCell ?_ (by first | omega | (simp; done) | (simp; omega)) _) | apply below_drewN | apply Below.drew | (refine Below.alloc ?_ (by first | omega | (simp; done) | (simp; omega)) _)))⟩
          rw [HV.out]
          exact (decide_eq_false (fun h => HE.out (by rw [HX.out, HY.out, h]))).symm
      · obtain rfl : k = n := by omega
        go_wp2
        go_ret
        refine ⟨ret_bool ?_, (by repeat (first | assumption | exact Below.refl _ _ | (refine Below.setCell ?_ (by first | omega | (simp; done) | (simp; omega)) _) | apply below_drewN | apply Below.drew | (refine Below.alloc ?_ (by first | omega | (simp; done) | (simp; omega)) _)))⟩
        rw [HV.out]
        exact (decide_eq_true (ext_W (by rw [HA.out.len, HB.out.len]) (fun j hj => hr.out j (by rw [HA.out.len] at hj; exact hj)))).symm
  · have h0 : ((n : Int) != (m : Int)) = true := by simp; omega
    have hf : v = false := by rw [hv]; exact decide_eq_false (fun h => hnm (by rw [← ha.len, ← hb.len, h]))
    have HF := Lib.hid hf
    clear hv hf hnm
    go_enter Try.func17, Try.ntmps17
    go_wp2
    go_ret
    exact ⟨ret_bool HF.out.symm, Below.refl _ _⟩

end Go.Proofs.Ytfpfmfhhcgafcaa
