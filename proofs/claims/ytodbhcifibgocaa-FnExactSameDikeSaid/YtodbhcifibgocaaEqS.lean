import Derived.Test.YtodbhcifibgocaaDikeR
namespace Go.Proofs.Ytodbhcifibgocaa
open Go.RowKit

set_option maxHeartbeats 1600000 in
theorem slEqualS_t (A B : Option Addr) (n c m d : Nat) (xs ys : List RSection) (w : World) (hn : n ≤ 1048576) (hm : m ≤ 1048576) (ha : Rd_Section w w.heap.size A n xs) (hb : Rd_Section w w.heap.size B m ys) (v : Bool) (hv : v = decide (xs = ys)) :
    Calls Try.prog 52 #[.slice A n c, .slice B m d] w fun e w' => e = .returned (.bool v) ∧ Below w.heap.size w w' := by
  by_cases hnm : n = m
  · subst hnm
    have h0 : ((n : Int) != (n : Int)) = false := by simp
    have hg := guardSection
    have HA := Lib.hid ha
    have HB := Lib.hid hb
    have HV := Lib.hid hv
    clear ha hb hv
    go_enter Try.func52, Try.ntmps52
    go_wp2
    go_loopw [5, 13] (fun _ i wr => ∃ k m : Nat, k ≤ n ∧ i = .int .i64 (k : Int) ∧ wr = w.drewN m ∧ Hid (∀ j, j < k → xs.getD j zSection = ys.getD j zSection)) (fun _ i _ => n - (intOf i).toNat)
    case atStart => exact ⟨0, 0, by omega, rfl, rfl, fun j hj => absurd hj (by omega)⟩
    case round =>
      obtain ⟨k, m, hk, rfl, rfl, hr⟩ := hrel
      by_cases hlt : k < n
      · obtain ⟨b, o, rfl, hbB, hc⟩ := HA.out.at (by omega)
        obtain ⟨b', o', rfl, hbB', hc'⟩ := HB.out.at (by omega)
        have p := hc k hlt
        have p' := hc' k hlt
        clear hc hc'
        obtain ⟨x, hx⟩ := getZs xs k
        obtain ⟨y, hy⟩ := getZs ys k
        rw [← hx] at p
        rw [← hy] at p'
        have HX := Lib.hid hx
        have HY := Lib.hid hy
        clear hx hy
        obtain ⟨x0, x1⟩ := x
        obtain ⟨y0, y1⟩ := y
        obtain ⟨p0, p1⟩ := p
        obtain ⟨p0', p1'⟩ := p'
        simp only at p0 p1 p0' p1'
        by_cases he : (⟨x0, x1⟩ : RSection) = ⟨y0, y1⟩
        · have e1 := neqSection x0 x1 y0 y1 false (by rw [decide_eq_true he]; rfl)
          have HE := Lib.hid he
          clear he
          go_wp2
          go_quiet (fail)
          go_wp2
          go_roundw
          case rel => exact ⟨k + 1, _, by omega, by go_num, rfl, fun j hj => by
            by_cases e : j = k
            · subst e; rw [← HX.out, ← HY.out]; exact HE.out
            · exact hr.out j (by omega)⟩
          case measure => simp [intOf]; omega
        · have e1 := neqSection x0 x1 y0 y1 true (by rw [decide_eq_false he]; rfl)
          have HE := Lib.hid he
          clear he
          go_wp2
          go_quiet (fail)
          go_wp2
          go_ret
          refine ⟨ret_bool ?_, (by repeat (first | assumption | exact Below.refl _ _ | (refine Below.setCell ?_ (by first | omega | (simp; done) | (simp; omega)) _) | apply below_drewN | apply Below.drew | (refine Below.alloc ?_ (by first | omega | (simp; done) | (simp; omega)) _)))⟩
          rw [HV.out]
          exact (decide_eq_false (fun h => HE.out (by rw [HX.out, HY.out, h]))).symm
      · obtain rfl : k = n := by omega
        go_wp2
        go_ret
        refine ⟨ret_bool ?_, (by repeat (first | assumption | exact Below.refl _ _ | (refine Below.setCell ?_ (by first | omega | (simp; done) | (simp; omega)) _) | apply below_drewN | apply Below.drew | (refine Below.alloc ?_ (by first | omega | (simp; done) | (simp; omega)) _)))⟩
        rw [HV.out]
        exact (decide_eq_true (ext_S (by rw [HA.out.len, HB.out.len]) (fun j hj => hr.out j (by rw [HA.out.len] at hj; exact hj)))).symm
  · have h0 : ((n : Int) != (m : Int)) = true := by simp; omega
    have hf : v = false := by rw [hv]; exact decide_eq_false (fun h => hnm (by rw [← ha.len, ← hb.len, h]))
    have HF := Lib.hid hf
    clear hv hf hnm
    go_enter Try.func52, Try.ntmps52
    go_wp2
    go_ret
    exact ⟨ret_bool HF.out.symm, Below.refl _ _⟩

set_option maxHeartbeats 1600000 in
theorem sameS_t (A B : Option Addr) (n c m d : Nat) (xs ys : List RSection) (w : World) (hn : n ≤ 1048576) (hm : m ≤ 1048576) (ha : Rd_Section w w.heap.size A n xs) (hb : Rd_Section w w.heap.size B m ys) (v : Bool) (hv : v = decide (xs = ys)) :
    Calls Try.prog 20 #[.slice A n c, .slice B m d] w fun e w' => e = .returned (.bool v) ∧ Below w.heap.size w w' := by
  by_cases hnm : n = m
  · subst hnm
    have h0 : ((n : Int) != (n : Int)) = false := by simp
    have hg := guardSection
    have HA := Lib.hid ha
    have HB := Lib.hid hb
    have HV := Lib.hid hv
    clear ha hb hv
    go_enter Try.func20, Try.ntmps20
    go_wp2
    go_loopw [5] (fun  i wr => ∃ k m : Nat, k ≤ n ∧ i = .int .i64 (k : Int) ∧ wr = w.drewN m ∧ Hid (∀ j, j < k → xs.getD j zSection = ys.getD j zSection)) (fun  i _ => n - (intOf i).toNat)
    case atStart => exact ⟨0, 0, by omega, rfl, rfl, fun j hj => absurd hj (by omega)⟩
    case round =>
      obtain ⟨k, m, hk, rfl, rfl, hr⟩ := hrel
      by_cases hlt : k < n
      · obtain ⟨b, o, rfl, hbB, hc⟩ := HA.out.at (by omega)
        obtain ⟨b', o', rfl, hbB', hc'⟩ := HB.out.at (by omega)
        have p := hc k hlt
        have p' := hc' k hlt
        clear hc hc'
        obtain ⟨x, hx⟩ := getZs xs k
        obtain ⟨y, hy⟩ := getZs ys k
        rw [← hx] at p
        rw [← hy] at p'
        have HX := Lib.hid hx
        have HY := Lib.hid hy
        clear hx hy
        obtain ⟨x0, x1⟩ := x
        obtain ⟨y0, y1⟩ := y
        obtain ⟨p0, p1⟩ := p
        obtain ⟨p0', p1'⟩ := p'
        simp only at p0 p1 p0' p1'
        by_cases he : (⟨x0, x1⟩ : RSection) = ⟨y0, y1⟩
        · have e1 := neqSection x0 x1 y0 y1 false (by rw [decide_eq_true he]; rfl)
          have HE := Lib.hid he
          clear he
          go_wp2
          go_quiet (fail)
          go_wp2
          go_roundw
          case rel => exact ⟨k + 1, _, by omega, by go_num, rfl, fun j hj => by
            by_cases e : j = k
            · subst e; rw [← HX.out, ← HY.out]; exact HE.out
            · exact hr.out j (by omega)⟩
          case measure => simp [intOf]; omega
        · have e1 := neqSection x0 x1 y0 y1 true (by rw [decide_eq_false he]; rfl)
          have HE := Lib.hid he
          clear he
          go_wp2
          go_quiet (fail)
          go_wp2
          go_ret
          refine ⟨ret_bool ?_, (by repeat (first | assumption | exact Below.refl _ _ | (refine Below.setCell ?_ (by first | omega | (simp; done) | (simp; omega)) _) | apply below_drewN | apply Below.drew | (refine Below.alloc ?_ (by first | omega | (simp; done) | (simp; omega)) _)))⟩
          rw [HV.out]
          exact (decide_eq_false (fun h => HE.out (by rw [HX.out, HY.out, h]))).symm
      · obtain rfl : k = n := by omega
        go_wp2
        go_ret
        refine ⟨ret_bool ?_, (by repeat (first | assumption | exact Below.refl _ _ | (refine Below.setCell ?_ (by first | omega | (simp; done) | (simp; omega)) _) | apply below_drewN | apply Below.drew | (refine Below.alloc ?_ (by first | omega | (simp; done) | (simp; omega)) _)))⟩
        rw [HV.out]
        exact (decide_eq_true (ext_S (by rw [HA.out.len, HB.out.len]) (fun j hj => hr.out j (by rw [HA.out.len] at hj; exact hj)))).symm
  · have h0 : ((n : Int) != (m : Int)) = true := by simp; omega
    have hf : v = false := by rw [hv]; exact decide_eq_false (fun h => hnm (by rw [← ha.len, ← hb.len, h]))
    have HF := Lib.hid hf
    clear hv hf hnm
    go_enter Try.func20, Try.ntmps20
    go_wp2
    go_ret
    exact ⟨ret_bool HF.out.symm, Below.refl _ _⟩

end Go.Proofs.Ytodbhcifibgocaa
