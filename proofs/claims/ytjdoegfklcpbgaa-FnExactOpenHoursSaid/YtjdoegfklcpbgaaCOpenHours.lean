/- The hours in which a sluice is open. -/
import Derived.Test.YtjdoegfklcpbgaaGts
import Derived.Test.YtjdoegfklcpbgaaIxG
import Derived.Test.YtjdoegfklcpbgaaOwnS
namespace Go.Proofs.Ytjdoegfklcpbgaa
open Go.RowKit

def opP (xs : List RGate) (k : Nat) : Bool := (xs.getD k zGate).f0
def r0_OpenHours (xa0 : List RGate) : List Int := if gsOk xa0.length xa0 then ixN (opP xa0) xa0.length else []
def r1_OpenHours (xa0 : List RGate) : Int := if gsOk xa0.length xa0 then 0 else 1
theorem len_r0_OpenHours (xa0 : List RGate) : (r0_OpenHours xa0).length ≤ 1048576 := by
  unfold r0_OpenHours
  split
  · rename_i h
    have := h.2
    have := ixN_len (opP xa0) xa0.length
    omega
  · simp

set_option maxHeartbeats 1600000 in
theorem specC_OpenHours (a0 : Option Addr) (la0 ca0 : Nat) (xa0 : List RGate) (w : World) (ha0 : la0 ≤ 1048576) (ra0 : Rd_Gate w w.heap.size a0 la0 xa0) (fa0 : Wf_Gate xa0) :
    Calls Try.prog 36 #[.slice a0 la0 ca0] w fun e w' => ∃ B0 dB0, e = .returned (.tuple #[.slice B0 (r0_OpenHours xa0).length dB0, .int .i64 (r1_OpenHours xa0)]) ∧ Below w.heap.size w w' ∧ Wr w' w.heap.size B0 (r0_OpenHours xa0).length (r0_OpenHours xa0) := by
  have hln := ra0.len
  have RA := Lib.hid ra0
  clear ra0
  by_cases h : gsOk la0 xa0
  · have e0 : r0_OpenHours xa0 = ixN (opP xa0) la0 := by unfold r0_OpenHours; rw [hln, if_pos h]
    have e1 : r1_OpenHours xa0 = 0 := by unfold r1_OpenHours; rw [hln, if_pos h]
    rw [e0, e1]
    have HV := Lib.hid h
    have h200 := h.2
    clear e0 e1 h
    go_enter Try.func36, Try.ntmps36
    go_wp2_with (go_at_call 65; refine (l09Gates_any _ _ _ xa0 _ ha0 RA.out true ⟨fun _ => HV.out, fun _ => rfl⟩).mono ?_; rintro eo w0 ⟨rfl, b0⟩; have s0 := b0.size)
    go_loopw [4, 5] (fun v i wr => ∃ k : Nat, k ≤ la0 ∧ i = .int .i64 (k : Int) ∧ Below w.heap.size w wr ∧ w.heap.size ≤ wr.heap.size ∧ wr.ownsRow w.heap.size 2 1 v (ixN (opP xa0) k).length ((ixN (opP xa0) k).map (Value.int .i64))) (fun _ i _ => la0 - (intOf i).toNat)
    case atStart => exact ⟨0, by omega, rfl, (by repeat (first | assumption | exact Below.refl _ _ | (refine Below.trans ?_ (b0.mono (by first | omega | (simp; done) | (simp; omega)))) | (refine Below.setCell ?_ (by first | omega | (simp; done) | (simp; omega)) _) | apply below_drewN | apply Below.drew | (refine Below.alloc ?_ (by first | omega | (simp; done) | (simp; omega)) _))), (by simp; omega), owns_made rfl s0⟩
    case round =>
      obtain ⟨k, hk, rfl, hb, hz, hown⟩ := hrel
      have hll := ixN_len (opP xa0) k
      by_cases hlt : k < la0
      · obtain ⟨ab, o, rfl, hbB, hc⟩ := (RA.out.below hb).at (by omega)
        have p := (hc k hlt).1
        clear hc
        cases hp : opP xa0 k with
        | true =>
          have HS := Lib.hid (ixN_yes hp)
          have hp' : (xa0.getD k zGate).f0 = true := hp
          rw [hp'] at p
          clear hp hp'
          generalize ixN (opP xa0) k = L at *
          go_wp2_with (first | (at_builtin; refine wpl_app1 rfl _ _ rfl _ _ _ _ _ _ rfl (by exact hown) rfl (by omega) (by exact hz) ?_; intro v1 w1 hown1 hb1 hz1))
          go_roundw
          case rel => exact ⟨k + 1, by omega, by go_num, hb.trans hb1, Nat.le_trans hz hz1, by have h3 := hown1; rw [show L.length + 1 = (L ++ [(k : Int)]).length by simp] at h3; rw [HS.out]; exact h3⟩
          case measure => simp [intOf]; omega
        | false =>
          have HS := Lib.hid (ixN_no hp)
          have hp' : (xa0.getD k zGate).f0 = false := hp
          rw [hp'] at p
          clear hp hp'
          generalize ixN (opP xa0) k = L at *
          go_wp2
          go_roundw
          case rel => exact ⟨k + 1, by omega, by go_num, hb, hz, by rw [HS.out]; exact hown⟩
          case measure => simp [intOf]; omega
      · obtain rfl : k = la0 := by omega
        go_wp2
        obtain ⟨B, d, rfl, hw⟩ := own_wr hown
        go_ret2
        exact ⟨B, d, rfl, hb, hw⟩
  · have e0 : r0_OpenHours xa0 = [] := by unfold r0_OpenHours; rw [hln, if_neg h]
    have e1 : r1_OpenHours xa0 = 1 := by unfold r1_OpenHours; rw [hln, if_neg h]
    rw [e0, e1]
    have HV := Lib.hid h
    clear e0 e1 h
    go_enter Try.func36, Try.ntmps36
    go_wp2_with (go_at_call 65; refine (l09Gates_any _ _ _ xa0 _ ha0 RA.out false ⟨fun h => by simp at h, fun h => absurd h HV.out⟩).mono ?_; rintro eo w0 ⟨rfl, b0⟩)
    go_ret2
    exact ⟨none, 0, rfl, (by repeat (first | assumption | exact Below.refl _ _ | (refine Below.trans ?_ (b0.mono (by first | omega | (simp; done) | (simp; omega)))) | (refine Below.setCell ?_ (by first | omega | (simp; done) | (simp; omega)) _) | apply below_drewN | apply Below.drew | (refine Below.alloc ?_ (by first | omega | (simp; done) | (simp; omega)) _))), rfl, fun h => absurd h (by simp)⟩

set_option maxHeartbeats 800000 in
theorem ogCl_t (B h n c ab o : Nat) (hi : Int) (x : Bool) (w : World) (e : hi = (h : Int)) (hh : h < n) (c1 : w.cell? ⟨B, 0, none⟩ = some (.slice (some ⟨ab, o, none⟩) n c)) (c4 : w.cell? ⟨ab, o + h * 3, none⟩ = some (.bool x)) :
    Calls Try.prog 68 #[.int .i64 hi, .pointer (some ⟨B, 0, none⟩)] w fun e w' => e = .returned (.bool x) ∧ Below w.heap.size w w' := by
  subst e
  have g0 : (0 : Int) ≤ (h : Int) := by omega
  have g1 : (h : Int) < (n : Int) := by omega
  go_enter Try.func68, Try.ntmps68
  go_wp2
  go_ret
  exact ⟨rfl, (by repeat (first | assumption | exact Below.refl _ _ | (refine Below.setCell ?_ (by first | omega | (simp; done) | (simp; omega)) _) | apply below_drewN | apply Below.drew | (refine Below.alloc ?_ (by first | omega | (simp; done) | (simp; omega)) _)))⟩

set_option maxHeartbeats 1600000 in
theorem implC_OpenHours (a0 : Option Addr) (la0 ca0 : Nat) (xa0 : List RGate) (w : World) (ha0 : la0 ≤ 1048576) (ra0 : Rd_Gate w w.heap.size a0 la0 xa0) (fa0 : Wf_Gate xa0) :
    Calls Try.prog 38 #[.slice a0 la0 ca0] w fun e w' => ∃ B0 dB0, e = .returned (.tuple #[.slice B0 (r0_OpenHours xa0).length dB0, .int .i64 (r1_OpenHours xa0)]) ∧ Below w.heap.size w w' ∧ Wr w' w.heap.size B0 (r0_OpenHours xa0).length (r0_OpenHours xa0) := by
  have hln := ra0.len
  have RA := Lib.hid ra0
  clear ra0
  have hmf : ∀ (fn : Fn) (first cap : Array Value) (w : World), (Instr.makeFunc fn first cap).run Try.prog w = .ok (.func fn first cap) w := fun _ _ _ _ => rfl
  by_cases h : gsOk la0 xa0
  · have e0 : r0_OpenHours xa0 = ixN (opP xa0) la0 := by unfold r0_OpenHours; rw [hln, if_pos h]
    have e1 : r1_OpenHours xa0 = 0 := by unfold r1_OpenHours; rw [hln, if_pos h]
    rw [e0, e1]
    have HV := Lib.hid h
    have h200 := h.2
    have HH := Lib.hid (show ∀ W Wx : World, W.cell? ⟨w.heap.size, 0, none⟩ = some (.slice a0 la0 ca0) → Rd_Gate W w.heap.size a0 la0 xa0 → w.heap.size < W.heap.size → Below W.heap.size W Wx → ∀ (i : Int) (h : Nat) (v : Bool), i = (h : Int) → h < la0 → v = opP xa0 h → Calls Try.prog 68 #[.int .i64 i, .pointer (some ⟨w.heap.size, 0, none⟩)] Wx fun e w' => e = .returned (.bool v) ∧ Below Wx.heap.size Wx w' from by
      intro W Wx hc hr hs hb i h v hi hh hv
      subst hv
      have hrx := (hr.mono (Nat.le_of_lt hs)).below hb
      obtain ⟨ab, o, rfl, _, hc2⟩ := hrx.at (by omega)
      exact ogCl_t _ h la0 ca0 ab o i _ Wx hi hh ((hb.cell (p := ⟨w.heap.size, 0, none⟩) hs).trans hc) (hc2 h hh).1)
    clear e0 e1 h
    go_enter Try.func38, Try.ntmps38
    go_wp2_with (first | (go_at_call 66; refine (areStates_any _ _ _ xa0 _ ha0 ((RA.out.below (by repeat (first | assumption | exact Below.refl _ _ | (refine Below.setCell ?_ (by first | omega | (simp; done) | (simp; omega)) _) | apply below_drewN | apply Below.drew | (refine Below.alloc ?_ (by first | omega | (simp; done) | (simp; omega)) _)))).mono (by first | omega | (simp; done) | (simp; omega))) true ⟨fun _ => HV.out, fun _ => rfl⟩).mono ?_; rintro eo W0 ⟨rfl, b0⟩; obtain ⟨k0, f0⟩ := bcell b0; have x0 : W0.cell? ⟨w.heap.size, 0, none⟩ = some (.slice a0 la0 ca0) := (by rw [k0 _ _ (by first | omega | (simp; done) | (simp; omega))]; first | (simp; done) | go_simp); have xf0 : W0.frozen? ⟨w.heap.size, 0, none⟩ = false := (by rw [f0 _ _ (by first | omega | (simp; done) | (simp; omega))]; first | (simp; done) | go_simp); have d0 : Below w.heap.size w W0 := (by repeat (first | assumption | exact Below.refl _ _ | (refine Below.trans ?_ (b0.mono (by first | omega | (simp; done) | (simp; omega)))) | (refine Below.setCell ?_ (by first | omega | (simp; done) | (simp; omega)) _) | apply below_drewN | apply Below.drew | (refine Below.alloc ?_ (by first | omega | (simp; done) | (simp; omega)) _))); have s0 : w.heap.size < W0.heap.size := (by have := b0.size; (try simp at this); omega); clear k0 f0 b0) | (go_at_call 67; refine (ix_og _ la0 (opP xa0) _ (by omega) (fun i h W v hi hh hb hv => HH.out _ W x0 (RA.out.below d0) s0 hb i h v hi hh hv)).mono ?_; rintro e3 W3 ⟨B, d, rfl, b3, x3⟩))
    go_ret2
    exact ⟨B, d, rfl, (by repeat (first | assumption | exact Below.refl _ _ | (refine Below.trans ?_ (b3.mono (by first | omega | (simp; done) | (simp; omega)))) | (refine Below.trans ?_ (d0.mono (by first | omega | (simp; done) | (simp; omega)))) | (refine Below.setCell ?_ (by first | omega | (simp; done) | (simp; omega)) _) | apply below_drewN | apply Below.drew | (refine Below.alloc ?_ (by first | omega | (simp; done) | (simp; omega)) _))), x3.lower (by omega)⟩
  · have e0 : r0_OpenHours xa0 = [] := by unfold r0_OpenHours; rw [hln, if_neg h]
    have e1 : r1_OpenHours xa0 = 1 := by unfold r1_OpenHours; rw [hln, if_neg h]
    rw [e0, e1]
    have HV := Lib.hid h
    clear e0 e1 h
    go_enter Try.func38, Try.ntmps38
    go_wp2_with (go_at_call 66; refine (areStates_any _ _ _ xa0 _ ha0 ((RA.out.below (by repeat (first | assumption | exact Below.refl _ _ | (refine Below.setCell ?_ (by first | omega | (simp; done) | (simp; omega)) _) | apply below_drewN | apply Below.drew | (refine Below.alloc ?_ (by first | omega | (simp; done) | (simp; omega)) _)))).mono (by first | omega | (simp; done) | (simp; omega))) false ⟨fun h => by simp at h, fun h => absurd h HV.out⟩).mono ?_; rintro eo w0 ⟨rfl, b0⟩)
    go_ret2
    exact ⟨none, 0, rfl, (by repeat (first | assumption | exact Below.refl _ _ | (refine Below.trans ?_ (b0.mono (by first | omega | (simp; done) | (simp; omega)))) | (refine Below.setCell ?_ (by first | omega | (simp; done) | (simp; omega)) _) | apply below_drewN | apply Below.drew | (refine Below.alloc ?_ (by first | omega | (simp; done) | (simp; omega)) _))), rfl, fun h => absurd h (by simp)⟩

end Go.Proofs.Ytjdoegfklcpbgaa
