/- NetText of the model. -/
import Derived.Test.YtnjadniidbbhcaaDoorNetC
import Derived.Test.YtnjadniidbbhcaaDoorDecS
import Derived.Test.YtnjadniidbbhcaaDoorStrs
import Derived.Lib.ItoaLen
import Derived.Lib.Join
import Derived.Deep.RegionHeld3
namespace Go.Proofs.YtnjadniidbbhcaaDoor
open Go.RowKit

def dB (n : Int) : ByteArray := ⟨(Lib.itoa n).toArray⟩
theorem dB_size (n : Int) (h : I64 n) : (dB n).size ≤ 21 := Lib.itoa_length_le n h.1 h.2
theorem dec_specB (n : Int) (w : World) (hn : I64 n) :
    Calls Tryd.prog 42 #[.int .i64 n] w fun e w' => e = .returned (.string (dB n)) ∧ Below w.heap.size w w' := dec_spec n w hn
theorem sz1 (b : UInt8) : (⟨#[b]⟩ : ByteArray).size = 1 := rfl

def ditchB (x : RDitch) : ByteArray := ⟨#[32]⟩ ++ dB x.f0 ++ ⟨#[62]⟩ ++ dB x.f1 ++ ⟨#[61]⟩ ++ dB x.f2
def netB (J : Int) (xs : List RDitch) : Nat → ByteArray
  | 0 => dB J ++ ⟨#[58]⟩
  | k + 1 => netB J xs k ++ ditchB (xs.getD k zDitch)
theorem ditchB_size (x : RDitch) (h0 : I64 x.f0) (h1 : I64 x.f1) (h2 : I64 x.f2) : (ditchB x).size ≤ 66 := by
  have := dB_size _ h0
  have := dB_size _ h1
  have := dB_size _ h2
  simp [ditchB]
  have e32 : (⟨#[32]⟩ : ByteArray).size = 1 := rfl
  have e62 : (⟨#[62]⟩ : ByteArray).size = 1 := rfl
  have e61 : (⟨#[61]⟩ : ByteArray).size = 1 := rfl
  omega
theorem dok_i64 {J : Int} {x : RDitch} (hJ : 2 ≤ J ∧ J ≤ 10) (h : DOk J x) : I64 x.f0 ∧ I64 x.f1 ∧ I64 x.f2 := by
  obtain ⟨h0, h1, _, h2⟩ := h
  exact ⟨⟨by omega, by omega⟩, ⟨by omega, by omega⟩, ⟨by omega, by omega⟩⟩
theorem netB_size {J : Int} {xs : List RDitch} (h : NetOk J xs) : ∀ k, k ≤ xs.length → (netB J xs k).size ≤ 22 + 66 * k := by
  intro k
  induction k with
  | zero =>
    intro _
    have := dB_size J ⟨by have := h.1; omega, by have := h.1; omega⟩
    have e : (⟨#[58]⟩ : ByteArray).size = 1 := rfl
    simp [netB]
    omega
  | succ k ih =>
    intro hk
    have h1 := ih (by omega)
    obtain ⟨i0, i1, i2⟩ := dok_i64 h.1 (h.2.2 k (by omega))
    have := ditchB_size _ i0 i1 i2
    rw [netB, ByteArray.size_append]
    omega

def r0_NetText (a0_0 : Int) (xa0_1 : List RDitch) : ByteArray := if NetOk a0_0 xa0_1 then netB a0_0 xa0_1 xa0_1.length else ⟨#[]⟩

set_option maxRecDepth 100000 in
set_option maxHeartbeats 1600000 in
theorem l04Text_t (b : Nat) (J : Int) (A : Option Addr) (n c : Nat) (xs : List RDitch) (w : World) (hb0 : b < w.heap.size) (hl : NetAt w b J A n c) (ha : Rd_Ditch w w.heap.size A n xs) (hok : NetOk J xs) :
    Calls Tryd.prog 28 #[.pointer (some ⟨b, 0, none⟩)] w fun e w' => e = .returned (.string (netB J xs n)) ∧ Below w.heap.size w w' := by
  have hln := ha.len
  have h20 := hok.2.1
  have HA := Lib.hid ha
  have HL := Lib.hid hl
  have HLN := Lib.hid hln
  have HOK := Lib.hid hok
  obtain ⟨c0, c1⟩ := hl
  have iJ : I64 J := ⟨by have := hok.1; omega, by have := hok.1; omega⟩
  have hz0 : (dB J).size ≤ 21 := dB_size J iJ
  clear ha hok
  go_enter Tryd.func28, Tryd.ntmps28
  go_wp2_with (go_at_call 42; refine (dec_specB J _ iJ).mono ?_; rintro e w1 ⟨rfl, b1⟩; obtain ⟨p0, p1⟩ := HL.out.below b1 hb0; have hB1 : b < w1.heap.size := (by have := b1.size; omega))
  go_loopw [3, 4] (fun v i wr => ∃ k : Nat, k ≤ n ∧ i = .int .i64 (k : Int) ∧ v = .string (netB J xs k) ∧ Below w.heap.size w wr) (fun _ i _ => n - (intOf i).toNat)
  case atStart => exact ⟨0, by omega, rfl, rfl, b1⟩
  case round =>
    obtain ⟨k, hk, rfl, rfl, hb⟩ := hrel
    clear p0 p1
    obtain ⟨p0, p1⟩ := HL.out.below hb hb0
    have hsz := hb.size
    have hb2 : b < wr.heap.size := by omega
    by_cases hlt : k < n
    · obtain ⟨ab, q, rfl, hB, hc⟩ := (HA.out.below hb).at (by omega)
      have p := hc k hlt
      clear hc
      obtain ⟨x, hx⟩ := getZ xs k
      rw [← hx] at p
      have HN := Lib.hid (show netB J xs (k + 1) = netB J xs k ++ ditchB x by rw [hx]; rfl)
      obtain ⟨i0, i1, i2⟩ := dok_i64 HOK.out.1 (show DOk J x by rw [hx]; exact HOK.out.2.2 k (by omega))
      have hzo := netB_size HOK.out k (by omega)
      clear hx
      obtain ⟨y0, y1, y2⟩ := x
      obtain ⟨q0, q1, q2⟩ := p
      simp only at q0 q1 q2 i0 i1 i2
      have hab : ab < wr.heap.size := by omega
      have z0 := dB_size y0 i0
      have z1 := dB_size y1 i1
      have z2 := dB_size y2 i2
      generalize netB J xs k = o at HN hzo ⊢
      have hzo' : o.size ≤ 2000 := by omega
      have e0 : (wr.alloc (.cells #[.int .i64 y0, .int .i64 y1, .int .i64 y2] 64)).drew.heap.size = wr.heap.size + 1 := by show (World.alloc _ _).heap.size = _; simp
      have d0 : Below w.heap.size w (wr.alloc (.cells #[.int .i64 y0, .int .i64 y1, .int .i64 y2] 64)).drew := (hb.alloc (by omega) _).drew
      go_wp2_with fail
      refine wp_region_held_drew (S := fun w' => w'.cell? ⟨wr.heap.size, 0, none⟩ = some (.int .i64 y0) ∧ w'.cell? ⟨wr.heap.size, 1, none⟩ = some (.int .i64 y1) ∧ w'.cell? ⟨wr.heap.size, 2, none⟩ = some (.int .i64 y2)) (by kernel_rfl) ⟨by simp, by simp, by simp⟩ (fun hHeld => ?_)
      ((refine wpAnyH_take (i := 0) (oi := ⟨some 28, _, _, _, _, _⟩) (v := ?_) rfl (by kernel_rfl) (by kernel_rfl) (by kernel_rfl) (fun _ _ _ h => h) (Or.inl ⟨by rfl, ?_⟩) (by assumption) ?_; rotate_left 1; (focus (intro w hSw; (try dsimp only at hSw); go_simp <;> try (first | (with_reducible rfl) | (rw [if_neg (by omega)]) | (rw [if_pos (by omega)])))); try simp only [Act.put, List.setIfInBounds_toArray, List.set_cons_zero, List.set_cons_succ]); (refine wpAnyH_take (i := 1) (oi := ⟨some 29, _, _, _, _, _⟩) (v := ?_) rfl (by kernel_rfl) (by kernel_rfl) (by kernel_rfl) (fun _ _ _ h => h) (Or.inl ⟨by rfl, ?_⟩) (by assumption) ?_; rotate_left 1; (focus (intro w hSw; (try dsimp only at hSw); go_simp <;> try (first | (with_reducible rfl) | (rw [if_neg (by omega)]) | (rw [if_pos (by omega)])))); try simp only [Act.put, List.setIfInBounds_toArray, List.set_cons_zero, List.set_cons_succ]); (refine wpAnyH_take (i := 2) (oi := ⟨some 30, _, _, _, _, _⟩) (v := ?_) rfl (by kernel_rfl) (by kernel_rfl) (by kernel_rfl) (fun _ _ _ h => h) (Or.inl ⟨by rfl, ?_⟩) (by assumption) ?_; rotate_left 1; (focus (intro w hSw; (try dsimp only at hSw); go_simp <;> try (first | (with_reducible rfl) | (rw [if_neg (by omega)]) | (rw [if_pos (by omega)])))); try simp only [Act.put, List.setIfInBounds_toArray, List.set_cons_zero, List.set_cons_succ]); (refine wpAnyH_take (i := 6) (oi := ⟨some 34, _, _, _, _, _⟩) (v := ?_) rfl (by kernel_rfl) (by kernel_rfl) (by kernel_rfl) (fun _ _ _ h => h) (Or.inl ⟨by rfl, ?_⟩) (by assumption) ?_; rotate_left 1; (focus (intro w hSw; (try dsimp only at hSw); go_simp <;> try (first | (with_reducible rfl) | (rw [if_neg (by omega)]) | (rw [if_pos (by omega)])))); try simp only [Act.put, List.setIfInBounds_toArray, List.set_cons_zero, List.set_cons_succ]); (refine wpAnyH_take (i := 7) (oi := ⟨some 35, _, _, _, _, _⟩) (v := ?_) rfl (by kernel_rfl) (by kernel_rfl) (by kernel_rfl) (fun _ _ _ h => h) (Or.inl ⟨by rfl, ?_⟩) (by assumption) ?_; rotate_left 1; (focus (intro w hSw; (try dsimp only at hSw); go_simp <;> try (first | (with_reducible rfl) | (rw [if_neg (by omega)]) | (rw [if_pos (by omega)])))); try simp only [Act.put, List.setIfInBounds_toArray, List.set_cons_zero, List.set_cons_succ]); (refine wpAnyH_take (i := 11) (oi := ⟨some 39, _, _, _, _, _⟩) (v := ?_) rfl (by kernel_rfl) (by kernel_rfl) (by kernel_rfl) (fun _ _ _ h => h) (Or.inl ⟨by rfl, ?_⟩) (by assumption) ?_; rotate_left 1; (focus (intro w hSw; (try dsimp only at hSw); go_simp <;> try (first | (with_reducible rfl) | (rw [if_neg (by omega)]) | (rw [if_pos (by omega)])))); try simp only [Act.put, List.setIfInBounds_toArray, List.set_cons_zero, List.set_cons_succ]); (refine wpAnyH_take (i := 12) (oi := ⟨some 40, _, _, _, _, _⟩) (v := ?_) rfl (by kernel_rfl) (by kernel_rfl) (by kernel_rfl) (fun _ _ _ h => h) (Or.inl ⟨by rfl, ?_⟩) (by assumption) ?_; rotate_left 1; (focus (intro w hSw; (try dsimp only at hSw); go_simp <;> try (first | (with_reducible rfl) | (rw [if_neg (by omega)]) | (rw [if_pos (by omega)])))); try simp only [Act.put, List.setIfInBounds_toArray, List.set_cons_zero, List.set_cons_succ]))
      (refine wpAnyH_ready (rs := [3]) (by kernel_rfl) (by simp) ?_; refine AllReadyH.cons rfl (fun K hK => ?_) AllReadyH.nil; go_simp)
      refine (dec_specB y0 _ i0).mono ?_
      rintro e1 W1 ⟨rfl, b1⟩
      have s1 : wr.heap.size < W1.heap.size := by have := b1.size; omega
      have d1 : Below w.heap.size w W1 := d0.trans (b1.mono (by omega))
      have z1_0 := (b1.cell (p := ⟨wr.heap.size, 0, none⟩) (show wr.heap.size < _ by omega)).trans hHeld.1
      have z1_1 := (b1.cell (p := ⟨wr.heap.size, 1, none⟩) (show wr.heap.size < _ by omega)).trans hHeld.2.1
      have z1_2 := (b1.cell (p := ⟨wr.heap.size, 2, none⟩) (show wr.heap.size < _ by omega)).trans hHeld.2.2
      clear hHeld
      (refine hK.out _ _ ?_ (fun hHeld => ?_))
      · exact ⟨z1_0, z1_1, z1_2⟩
      ((refine wpAnyH_take (i := 4) (oi := ⟨some 32, _, _, _, _, _⟩) (v := ?_) rfl (by kernel_rfl) (by kernel_rfl) (by kernel_rfl) (fun _ _ _ h => h) (Or.inl ⟨by rfl, ?_⟩) (by assumption) ?_; rotate_left 1; (focus (intro w hSw; (try dsimp only at hSw); go_simp <;> try (first | (with_reducible rfl) | (rw [if_neg (by omega)]) | (rw [if_pos (by omega)])))); try simp only [Act.put, List.setIfInBounds_toArray, List.set_cons_zero, List.set_cons_succ]); (refine wpAnyH_take (i := 5) (oi := ⟨some 33, _, _, _, _, _⟩) (v := ?_) rfl (by kernel_rfl) (by kernel_rfl) (by kernel_rfl) (fun _ _ _ h => h) (Or.inl ⟨by rfl, ?_⟩) (by assumption) ?_; rotate_left 1; (focus (intro w hSw; (try dsimp only at hSw); go_simp <;> try (first | (with_reducible rfl) | (rw [if_neg (by omega)]) | (rw [if_pos (by omega)])))); try simp only [Act.put, List.setIfInBounds_toArray, List.set_cons_zero, List.set_cons_succ]))
      (refine wpAnyH_ready (rs := [8]) (by kernel_rfl) (by simp) ?_; refine AllReadyH.cons rfl (fun K hK => ?_) AllReadyH.nil; go_simp)
      refine (dec_specB y1 _ i1).mono ?_
      rintro e2 W2 ⟨rfl, b2⟩
      have s2 : wr.heap.size < W2.heap.size := by have := b2.size; omega
      have d2 : Below w.heap.size w W2 := d1.trans (b2.mono (by omega))
      have z2_0 := (b2.cell (p := ⟨wr.heap.size, 0, none⟩) (show wr.heap.size < _ by omega)).trans hHeld.1
      have z2_1 := (b2.cell (p := ⟨wr.heap.size, 1, none⟩) (show wr.heap.size < _ by omega)).trans hHeld.2.1
      have z2_2 := (b2.cell (p := ⟨wr.heap.size, 2, none⟩) (show wr.heap.size < _ by omega)).trans hHeld.2.2
      clear hHeld
      (refine hK.out _ _ ?_ (fun hHeld => ?_))
      · exact ⟨z2_0, z2_1, z2_2⟩
      ((refine wpAnyH_take (i := 9) (oi := ⟨some 37, _, _, _, _, _⟩) (v := ?_) rfl (by kernel_rfl) (by kernel_rfl) (by kernel_rfl) (fun _ _ _ h => h) (Or.inl ⟨by rfl, ?_⟩) (by assumption) ?_; rotate_left 1; (focus (intro w hSw; (try dsimp only at hSw); go_simp <;> try (first | (with_reducible rfl) | (rw [if_neg (by omega)]) | (rw [if_pos (by omega)])))); try simp only [Act.put, List.setIfInBounds_toArray, List.set_cons_zero, List.set_cons_succ]); (refine wpAnyH_take (i := 10) (oi := ⟨some 38, _, _, _, _, _⟩) (v := ?_) rfl (by kernel_rfl) (by kernel_rfl) (by kernel_rfl) (fun _ _ _ h => h) (Or.inl ⟨by rfl, ?_⟩) (by assumption) ?_; rotate_left 1; (focus (intro w hSw; (try dsimp only at hSw); go_simp <;> try (first | (with_reducible rfl) | (rw [if_neg (by omega)]) | (rw [if_pos (by omega)])))); try simp only [Act.put, List.setIfInBounds_toArray, List.set_cons_zero, List.set_cons_succ]))
      (refine wpAnyH_ready (rs := [13]) (by kernel_rfl) (by simp) ?_; refine AllReadyH.cons rfl (fun K hK => ?_) AllReadyH.nil; go_simp)
      refine (dec_specB y2 _ i2).mono ?_
      rintro e3 W3 ⟨rfl, b3⟩
      have s3 : wr.heap.size < W3.heap.size := by have := b3.size; omega
      have d3 : Below w.heap.size w W3 := d2.trans (b3.mono (by omega))
      have z3_0 := (b3.cell (p := ⟨wr.heap.size, 0, none⟩) (show wr.heap.size < _ by omega)).trans hHeld.1
      have z3_1 := (b3.cell (p := ⟨wr.heap.size, 1, none⟩) (show wr.heap.size < _ by omega)).trans hHeld.2.1
      have z3_2 := (b3.cell (p := ⟨wr.heap.size, 2, none⟩) (show wr.heap.size < _ by omega)).trans hHeld.2.2
      clear hHeld
      (refine hK.out _ _ ?_ (fun hHeld => ?_))
      · exact ⟨z3_0, z3_1, z3_2⟩
      ((refine wpAnyH_take (i := 14) (oi := ⟨some 42, _, _, _, _, _⟩) (v := ?_) rfl (by kernel_rfl) (by kernel_rfl) (by kernel_rfl) (fun _ _ _ h => h) (Or.inl ⟨by rfl, ?_⟩) (by assumption) ?_; rotate_left 1; (focus (intro w hSw; (try dsimp only at hSw); go_simp <;> try (first | (with_reducible rfl) | (rw [if_neg (by omega)]) | (rw [if_pos (by omega)])))); try simp only [Act.put, List.setIfInBounds_toArray, List.set_cons_zero, List.set_cons_succ]); (refine wpAnyH_take (i := 15) (oi := ⟨some 43, _, _, _, _, _⟩) (v := ?_) rfl (by kernel_rfl) (by kernel_rfl) (by kernel_rfl) (fun _ _ _ h => h) (Or.inl ⟨by rfl, ?_⟩) (by assumption) ?_; rotate_left 1; (focus (intro w hSw; (try dsimp only at hSw); go_simp <;> try (first | (with_reducible rfl) | (rw [if_neg (by omega)]) | (rw [if_pos (by omega)])))); try simp only [Act.put, List.setIfInBounds_toArray, List.set_cons_zero, List.set_cons_succ]); (refine wpAnyH_take (i := 16) (oi := ⟨some 3, _, _, _, _, _⟩) (v := ?_) rfl (by kernel_rfl) (by kernel_rfl) (by kernel_rfl) (fun _ _ _ h => h) (Or.inl ⟨by rfl, ?_⟩) (by assumption) ?_; rotate_left 1; (focus (intro w hSw; (try dsimp only at hSw); go_simp <;> try (first | (with_reducible rfl) | (rw [if_neg (by omega)]) | (rw [if_pos (by omega)])))); try simp only [Act.put, List.setIfInBounds_toArray, List.set_cons_zero, List.set_cons_succ]))
      refine wpAnyH_done (by kernel_rfl) ?_ _
      go_wp2
      go_roundw
      case rel => exact ⟨k + 1, by omega, by go_num, by rw [HN.out]; rfl, d3⟩
      case measure => simp [intOf]; omega
    · obtain rfl : k = n := by omega
      go_wp2
      go_ret
      exact ⟨rfl, hb⟩

set_option maxHeartbeats 1600000 in
theorem specC_NetText (a0_0 : Int) (a0_1 : Option Addr) (la0_1 ca0_1 : Nat) (xa0_1 : List RDitch) (w : World) (ha0_0 : (Lit.int .i64 a0_0).wf = true) (ha0_1 : la0_1 ≤ 1048576) (ra0_1 : Rd_Ditch w w.heap.size a0_1 la0_1 xa0_1) (fa0_1 : Wf_Ditch xa0_1) :
    Calls Tryd.prog 10 #[.agg #[.int .i64 a0_0, .slice a0_1 la0_1 ca0_1]] w fun e w' => e = .returned (.string (r0_NetText a0_0 xa0_1)) ∧ Below w.heap.size w w' := by
  have hln := ra0_1.len
  have RA := Lib.hid ra0_1
  clear ra0_1
  by_cases hv : NetOk a0_0 xa0_1
  · have HV := Lib.hid hv
    have HE := Lib.hid (show r0_NetText a0_0 xa0_1 = netB a0_0 xa0_1 la0_1 by rw [← hln]; exact if_pos hv)
    rw [HE.out]
    clear hv hln
    go_enter Tryd.func10, Tryd.ntmps10
    go_wp2_with (go_at_call 27; refine (l04Ok_any _ a0_0 a0_1 la0_1 ca0_1 xa0_1 _ (by first | omega | (simp; done) | (simp; omega)) ha0_1 ⟨by go_simp, by go_simp⟩ ((RA.out.below (by repeat (first | assumption | exact Below.refl _ _ | (refine Below.setCell ?_ (by first | omega | (simp; done) | (simp; omega)) _) | apply below_drewN | apply Below.drew | (refine Below.alloc ?_ (by first | omega | (simp; done) | (simp; omega)) _)))).mono (by first | omega | (simp; done) | (simp; omega))) true (by simp [HV.out])).mono ?_; rintro e w1 ⟨rfl, b1⟩; have s1 : w.heap.size < w1.heap.size := (by have := b1.size; simp at this; omega); obtain ⟨k1, f1⟩ := bcell b1; have z0 : w1.cell? ⟨w.heap.size, 0, none⟩ = some (.int .i64 a0_0) := (by rw [k1 _ _ (by first | omega | (simp; done) | (simp; omega))]; first | (simp; done) | go_simp); have zf0 : w1.frozen? ⟨w.heap.size, 0, none⟩ = false := (by rw [f1 _ _ (by first | omega | (simp; done) | (simp; omega))]; first | (simp; done) | go_simp); have z1 : w1.cell? ⟨w.heap.size, 1, none⟩ = some (.slice a0_1 la0_1 ca0_1) := (by rw [k1 _ _ (by first | omega | (simp; done) | (simp; omega))]; first | (simp; done) | go_simp); have zf1 : w1.frozen? ⟨w.heap.size, 1, none⟩ = false := (by rw [f1 _ _ (by first | omega | (simp; done) | (simp; omega))]; first | (simp; done) | go_simp); clear k1 f1; have d1 : Below w.heap.size w w1 := (by repeat (first | assumption | exact Below.refl _ _ | (refine Below.trans ?_ (b1.mono (by first | omega | (simp; done) | (simp; omega)))) | (refine Below.setCell ?_ (by first | omega | (simp; done) | (simp; omega)) _) | apply below_drewN | apply Below.drew | (refine Below.alloc ?_ (by first | omega | (simp; done) | (simp; omega)) _))))
    go_wp2_with (go_at_call 28; refine (l04Text_t _ a0_0 a0_1 la0_1 ca0_1 xa0_1 _ s1 ⟨z0, z1⟩ ((RA.out.below d1).mono (by omega)) HV.out).mono ?_; rintro e w2 ⟨rfl, b2⟩)
    go_ret
    exact ⟨rfl, d1.trans (b2.mono (by omega))⟩
  · have HV := Lib.hid hv
    have HE := Lib.hid (show r0_NetText a0_0 xa0_1 = ⟨#[]⟩ from if_neg hv)
    rw [HE.out]
    clear hv hln
    go_enter Tryd.func10, Tryd.ntmps10
    go_wp2_with (go_at_call 27; refine (l04Ok_any _ a0_0 a0_1 la0_1 ca0_1 xa0_1 _ (by first | omega | (simp; done) | (simp; omega)) ha0_1 ⟨by go_simp, by go_simp⟩ ((RA.out.below (by repeat (first | assumption | exact Below.refl _ _ | (refine Below.setCell ?_ (by first | omega | (simp; done) | (simp; omega)) _) | apply below_drewN | apply Below.drew | (refine Below.alloc ?_ (by first | omega | (simp; done) | (simp; omega)) _)))).mono (by first | omega | (simp; done) | (simp; omega))) false (by simp [HV.out])).mono ?_; rintro e w1 ⟨rfl, b1⟩; have d1 : Below w.heap.size w w1 := (by repeat (first | assumption | exact Below.refl _ _ | (refine Below.trans ?_ (b1.mono (by first | omega | (simp; done) | (simp; omega)))) | (refine Below.setCell ?_ (by first | omega | (simp; done) | (simp; omega)) _) | apply below_drewN | apply Below.drew | (refine Below.alloc ?_ (by first | omega | (simp; done) | (simp; omega)) _))))
    go_ret
    exact ⟨rfl, d1⟩



end Go.Proofs.YtnjadniidbbhcaaDoor
