/- Contracts of NetText: written by mktext.py. -/
import Derived.Test.YtneabcfpdkndkaaDoorText
import Derived.Test.YtneabcfpdkndkaaDoorNetC
namespace Go.Proofs.YtneabcfpdkndkaaDoor
open Go.RowKit

def ditchB (x : RDitch) : ByteArray := ⟨#[32]⟩ ++ dB x.f0 ++ ⟨#[62]⟩ ++ dB x.f1 ++ ⟨#[61]⟩ ++ dB x.f2
def netB (J : Int) (xs : List RDitch) : Nat → ByteArray
  | 0 => dB J ++ ⟨#[58]⟩
  | k + 1 => netB J xs k ++ ditchB (xs.getD k zDitch)
theorem ditchB_size (x : RDitch) (h0 : I64 x.f0) (h1 : I64 x.f1) (h2 : I64 x.f2) : (ditchB x).size ≤ 66 := by
  have := dB_size _ h0
  have := dB_size _ h1
  have := dB_size _ h2
  simp [ditchB]
  have e32 : (⟨#[32]⟩ : ByteArray).size = 1 := rfl
  have e62 : (⟨#[62]⟩ : ByteArray).size = 1 := rfl
  have e61 : (⟨#[61]⟩ : ByteArray).size = 1 := rfl
  omega
theorem dok_i64 {J : Int} {x : RDitch} (hJ : 2 ≤ J ∧ J ≤ 10) (h : DOk J x) : I64 x.f0 ∧ I64 x.f1 ∧ I64 x.f2 := by
  obtain ⟨h0, h1, _, h2⟩ := h
  exact ⟨⟨by omega, by omega⟩, ⟨by omega, by omega⟩, ⟨by omega, by omega⟩⟩
theorem netB_size {J : Int} {xs : List RDitch} (h : NetOk J xs) : ∀ k, k ≤ xs.length → (netB J xs k).size ≤ 22 + 66 * k := by
  intro k
  induction k with
  | zero =>
    intro _
    have := dB_size J ⟨by have := h.1; omega, by have := h.1; omega⟩
    have e : (⟨#[58]⟩ : ByteArray).size = 1 := rfl
    simp [netB]
    omega
  | succ k ih =>
    intro hk
    have h1 := ih (by omega)
    obtain ⟨i0, i1, i2⟩ := dok_i64 h.1 (h.2.2 k (by omega))
    have := ditchB_size _ i0 i1 i2
    rw [netB, ByteArray.size_append]
    omega

def r0_NetText (a0_0 : Int) (xa0_1 : List RDitch) : ByteArray := if NetOk a0_0 xa0_1 then netB a0_0 xa0_1 xa0_1.length else ⟨#[]⟩

set_option maxRecDepth 100000 in
set_option maxHeartbeats 1600000 in
theorem l04Text_t (b : Nat) (J : Int) (A : Option Addr) (n c : Nat) (xs : List RDitch) (w : World) (hb0 : b < w.heap.size) (hl : NetAt w b J A n c) (ha : Rd_Ditch w w.heap.size A n xs) (hok : NetOk J xs) :
    Calls Tryd.prog 25 #[.pointer (some ⟨b, 0, none⟩)] w fun e w' => e = .returned (.string (netB J xs n)) ∧ Below w.heap.size w w' := by
  have hln := ha.len
  have h20 := hok.2.1
  have HA := Lib.hid ha
  have HL := Lib.hid hl
  have HLN := Lib.hid hln
  have HOK := Lib.hid hok
  obtain ⟨c0, c1⟩ := hl
  have iJ : I64 J := ⟨by have := hok.1; omega, by have := hok.1; omega⟩
  have hz0 : (dB J).size ≤ 21 := dB_size J iJ
  clear ha hok
  go_enter Tryd.func25, Tryd.ntmps25
  go_wp2_with (go_at_call 33; refine (dec_specB J _ iJ).mono ?_; rintro e w1 ⟨rfl, b1⟩; obtain ⟨p0, p1⟩ := HL.out.below b1 hb0; have hB1 : b < w1.heap.size := (by have := b1.size; omega))
  go_loopw [3, 4] (fun v i wr => ∃ k : Nat, k ≤ n ∧ i = .int .i64 (k : Int) ∧ v = .string (netB J xs k) ∧ Below w.heap.size w wr) (fun _ i _ => n - (intOf i).toNat)
  case atStart => exact ⟨0, by omega, rfl, rfl, b1⟩
  case round =>
    obtain ⟨k, hk, rfl, rfl, hb⟩ := hrel
    clear p0 p1
    obtain ⟨p0, p1⟩ := HL.out.below hb hb0
    have hsz := hb.size
    have hb2 : b < wr.heap.size := by omega
    by_cases hlt : k < n
    · obtain ⟨ab, q, rfl, hB, hc⟩ := (HA.out.below hb).at (by omega)
      have p := hc k hlt
      clear hc
      obtain ⟨x, hx⟩ := getZ xs k
      rw [← hx] at p
      have HN := Lib.hid (show netB J xs (k + 1) = netB J xs k ++ ditchB x by rw [hx]; rfl)
      obtain ⟨i0, i1, i2⟩ := dok_i64 HOK.out.1 (show DOk J x by rw [hx]; exact HOK.out.2.2 k (by omega))
      have hzo := netB_size HOK.out k (by omega)
      clear hx
      obtain ⟨y0, y1, y2⟩ := x
      obtain ⟨q0, q1, q2⟩ := p
      simp only at q0 q1 q2 i0 i1 i2
      have hab : ab < wr.heap.size := by omega
      have z0 := dB_size y0 i0
      have z1 := dB_size y1 i1
      have z2 := dB_size y2 i2
      generalize netB J xs k = o at HN hzo ⊢
      have hzo' : o.size ≤ 2000 := by omega
      have e0 : (wr.alloc (.cells #[.int .i64 y0, .int .i64 y1, .int .i64 y2] 67)).drew.heap.size = wr.heap.size + 1 := by show (World.alloc _ _).heap.size = _; simp
      have d0 : Below w.heap.size w (wr.alloc (.cells #[.int .i64 y0, .int .i64 y1, .int .i64 y2] 67)).drew := (hb.alloc (by omega) _).drew
      go_wp2_with fail
      refine wp_region_held_drew (S := fun w' => w'.cell? ⟨wr.heap.size, 0, none⟩ = some (.int .i64 y0) ∧ w'.cell? ⟨wr.heap.size, 1, none⟩ = some (.int .i64 y1) ∧ w'.cell? ⟨wr.heap.size, 2, none⟩ = some (.int .i64 y2)) (by kernel_rfl) ⟨by simp, by simp, by simp⟩ (fun hHeld => ?_)
      ((refine wpAnyH_take (i := 0) (oi := ⟨some 28, _, _, _, _, _⟩) (v := ?_) rfl (by kernel_rfl) (by kernel_rfl) (by kernel_rfl) (fun _ _ _ h => h) (Or.inl ⟨by rfl, ?_⟩) (by assumption) ?_; rotate_left 1; (focus (intro w hSw; (try dsimp only at hSw); go_simp <;> try (first | (with_reducible rfl) | (rw [if_neg (by omega)])))); try simp only [Act.put, List.setIfInBounds_toArray, List.set_cons_zero, List.set_cons_succ]); (refine wpAnyH_take (i := 1) (oi := ⟨some 29, _, _, _, _, _⟩) (v := ?_) rfl (by kernel_rfl) (by kernel_rfl) (by kernel_rfl) (fun _ _ _ h => h) (Or.inl ⟨by rfl, ?_⟩) (by assumption) ?_; rotate_left 1; (focus (intro w hSw; (try dsimp only at hSw); go_simp <;> try (first | (with_reducible rfl) | (rw [if_neg (by omega)])))); try simp only [Act.put, List.setIfInBounds_toArray, List.set_cons_zero, List.set_cons_succ]); (refine wpAnyH_take (i := 2) (oi := ⟨some 30, _, _, _, _, _⟩) (v := ?_) rfl (by kernel_rfl) (by kernel_rfl) (by kernel_rfl) (fun _ _ _ h => h) (Or.inl ⟨by rfl, ?_⟩) (by assumption) ?_; rotate_left 1; (focus (intro w hSw; (try dsimp only at hSw); go_simp <;> try (first | (with_reducible rfl) | (rw [if_neg (by omega)])))); try simp only [Act.put, List.setIfInBounds_toArray, List.set_cons_zero, List.set_cons_succ]); (refine wpAnyH_take (i := 6) (oi := ⟨some 34, _, _, _, _, _⟩) (v := ?_) rfl (by kernel_rfl) (by kernel_rfl) (by kernel_rfl) (fun _ _ _ h => h) (Or.inl ⟨by rfl, ?_⟩) (by assumption) ?_; rotate_left 1; (focus (intro w hSw; (try dsimp only at hSw); go_simp <;> try (first | (with_reducible rfl) | (rw [if_neg (by omega)])))); try simp only [Act.put, List.setIfInBounds_toArray, List.set_cons_zero, List.set_cons_succ]); (refine wpAnyH_take (i := 7) (oi := ⟨some 35, _, _, _, _, _⟩) (v := ?_) rfl (by kernel_rfl) (by kernel_rfl) (by kernel_rfl) (fun _ _ _ h => h) (Or.inl ⟨by rfl, ?_⟩) (by assumption) ?_; rotate_left 1; (focus (intro w hSw; (try dsimp only at hSw); go_simp <;> try (first | (with_reducible rfl) | (rw [if_neg (by omega)])))); try simp only [Act.put, List.setIfInBounds_toArray, List.set_cons_zero, List.set_cons_succ]); (refine wpAnyH_take (i := 11) (oi := ⟨some 39, _, _, _, _, _⟩) (v := ?_) rfl (by kernel_rfl) (by kernel_rfl) (by kernel_rfl) (fun _ _ _ h => h) (Or.inl ⟨by rfl, ?_⟩) (by assumption) ?_; rotate_left 1; (focus (intro w hSw; (try dsimp only at hSw); go_simp <;> try (first | (with_reducible rfl) | (rw [if_neg (by omega)])))); try simp only [Act.put, List.setIfInBounds_toArray, List.set_cons_zero, List.set_cons_succ]); (refine wpAnyH_take (i := 12) (oi := ⟨some 40, _, _, _, _, _⟩) (v := ?_) rfl (by kernel_rfl) (by kernel_rfl) (by kernel_rfl) (fun _ _ _ h => h) (Or.inl ⟨by rfl, ?_⟩) (by assumption) ?_; rotate_left 1; (focus (intro w hSw; (try dsimp only at hSw); go_simp <;> try (first | (with_reducible rfl) | (rw [if_neg (by omega)])))); try simp only [Act.put, List.setIfInBounds_toArray, List.set_cons_zero, List.set_cons_succ]))
      (refine wpAnyH_ready (rs := [3]) (by kernel_rfl) (by simp) ?_; refine AllReadyH.cons rfl (fun K hK => ?_) AllReadyH.nil; go_simp)
      refine (dec_specB y0 _ i0).mono ?_
      rintro e1 W1 ⟨rfl, b1⟩
      have s1 : wr.heap.size < W1.heap.size := by have := b1.size; omega
      have d1 : Below w.heap.size w W1 := d0.trans (b1.mono (by omega))
      have z1_0 := (b1.cell (p := ⟨wr.heap.size, 0, none⟩) (show wr.heap.size < _ by omega)).trans hHeld.1
      have z1_1 := (b1.cell (p := ⟨wr.heap.size, 1, none⟩) (show wr.heap.size < _ by omega)).trans hHeld.2.1
      have z1_2 := (b1.cell (p := ⟨wr.heap.size, 2, none⟩) (show wr.heap.size < _ by omega)).trans hHeld.2.2
      clear hHeld
      (refine hK.out _ _ ?_ (fun hHeld => ?_))
      · exact ⟨z1_0, z1_1, z1_2⟩
      ((refine wpAnyH_take (i := 4) (oi := ⟨some 32, _, _, _, _, _⟩) (v := ?_) rfl (by kernel_rfl) (by kernel_rfl) (by kernel_rfl) (fun _ _ _ h => h) (Or.inl ⟨by rfl, ?_⟩) (by assumption) ?_; rotate_left 1; (focus (intro w hSw; (try dsimp only at hSw); go_simp <;> try (first | (with_reducible rfl) | (rw [if_neg (by omega)])))); try simp only [Act.put, List.setIfInBounds_toArray, List.set_cons_zero, List.set_cons_succ]); (refine wpAnyH_take (i := 5) (oi := ⟨some 33, _, _, _, _, _⟩) (v := ?_) rfl (by kernel_rfl) (by kernel_rfl) (by kernel_rfl) (fun _ _ _ h => h) (Or.inl ⟨by rfl, ?_⟩) (by assumption) ?_; rotate_left 1; (focus (intro w hSw; (try dsimp only at hSw); go_simp <;> try (first | (with_reducible rfl) | (rw [if_neg (by omega)])))); try simp only [Act.put, List.setIfInBounds_toArray, List.set_cons_zero, List.set_cons_succ]))
      (refine wpAnyH_ready (rs := [8]) (by kernel_rfl) (by simp) ?_; refine AllReadyH.cons rfl (fun K hK => ?_) AllReadyH.nil; go_simp)
      refine (dec_specB y1 _ i1).mono ?_
      rintro e2 W2 ⟨rfl, b2⟩
      have s2 : wr.heap.size < W2.heap.size := by have := b2.size; omega
      have d2 : Below w.heap.size w W2 := d1.trans (b2.mono (by omega))
      have z2_0 := (b2.cell (p := ⟨wr.heap.size, 0, none⟩) (show wr.heap.size < _ by omega)).trans hHeld.1
      have z2_1 := (b2.cell (p := ⟨wr.heap.size, 1, none⟩) (show wr.heap.size < _ by omega)).trans hHeld.2.1
      have z2_2 := (b2.cell (p := ⟨wr.heap.size, 2, none⟩) (show wr.heap.size < _ by omega)).trans hHeld.2.2
      clear hHeld
      (refine hK.out _ _ ?_ (fun hHeld => ?_))
      · exact ⟨z2_0, z2_1, z2_2⟩
      ((refine wpAnyH_take (i := 9) (oi := ⟨some 37, _, _, _, _, _⟩) (v := ?_) rfl (by kernel_rfl) (by kernel_rfl) (by kernel_rfl) (fun _ _ _ h => h) (Or.inl ⟨by rfl, ?_⟩) (by assumption) ?_; rotate_left 1; (focus (intro w hSw; (try dsimp only at hSw); go_simp <;> try (first | (with_reducible rfl) | (rw [if_neg (by omega)])))); try simp only [Act.put, List.setIfInBounds_toArray, List.set_cons_zero, List.set_cons_succ]); (refine wpAnyH_take (i := 10) (oi := ⟨some 38, _, _, _, _, _⟩) (v := ?_) rfl (by kernel_rfl) (by kernel_rfl) (by kernel_rfl) (fun _ _ _ h => h) (Or.inl ⟨by rfl, ?_⟩) (by assumption) ?_; rotate_left 1; (focus (intro w hSw; (try dsimp only at hSw); go_simp <;> try (first | (with_reducible rfl) | (rw [if_neg (by omega)])))); try simp only [Act.put, List.setIfInBounds_toArray, List.set_cons_zero, List.set_cons_succ]))
      (refine wpAnyH_ready (rs := [13]) (by kernel_rfl) (by simp) ?_; refine AllReadyH.cons rfl (fun K hK => ?_) AllReadyH.nil; go_simp)
      refine (dec_specB y2 _ i2).mono ?_
      rintro e3 W3 ⟨rfl, b3⟩
      have s3 : wr.heap.size < W3.heap.size := by have := b3.size; omega
      have d3 : Below w.heap.size w W3 := d2.trans (b3.mono (by omega))
      have z3_0 := (b3.cell (p := ⟨wr.heap.size, 0, none⟩) (show wr.heap.size < _ by omega)).trans hHeld.1
      have z3_1 := (b3.cell (p := ⟨wr.heap.size, 1, none⟩) (show wr.heap.size < _ by omega)).trans hHeld.2.1
      have z3_2 := (b3.cell (p := ⟨wr.heap.size, 2, none⟩) (show wr.heap.size < _ by omega)).trans hHeld.2.2
      clear hHeld
      (refine hK.out _ _ ?_ (fun hHeld => ?_))
      · exact ⟨z3_0, z3_1, z3_2⟩
      ((refine wpAnyH_take (i := 14) (oi := ⟨some 42, _, _, _, _, _⟩) (v := ?_) rfl (by kernel_rfl) (by kernel_rfl) (by kernel_rfl) (fun _ _ _ h => h) (Or.inl ⟨by rfl, ?_⟩) (by assumption) ?_; rotate_left 1; (focus (intro w hSw; (try dsimp only at hSw); go_simp <;> try (first | (with_reducible rfl) | (rw [if_neg (by omega)])))); try simp only [Act.put, List.setIfInBounds_toArray, List.set_cons_zero, List.set_cons_succ]); (refine wpAnyH_take (i := 15) (oi := ⟨some 43, _, _, _, _, _⟩) (v := ?_) rfl (by kernel_rfl) (by kernel_rfl) (by kernel_rfl) (fun _ _ _ h => h) (Or.inl ⟨by rfl, ?_⟩) (by assumption) ?_; rotate_left 1; (focus (intro w hSw; (try dsimp only at hSw); go_simp <;> try (first | (with_reducible rfl) | (rw [if_neg (by omega)])))); try simp only [Act.put, List.setIfInBounds_toArray, List.set_cons_zero, List.set_cons_succ]); (refine wpAnyH_take (i := 16) (oi := ⟨some 3, _, _, _, _, _⟩) (v := ?_) rfl (by kernel_rfl) (by kernel_rfl) (by kernel_rfl) (fun _ _ _ h => h) (Or.inl ⟨by rfl, ?_⟩) (by assumption) ?_; rotate_left 1; (focus (intro w hSw; (try dsimp only at hSw); go_simp <;> try (first | (with_reducible rfl) | (rw [if_neg (by omega)])))); try simp only [Act.put, List.setIfInBounds_toArray, List.set_cons_zero, List.set_cons_succ]))
      refine wpAnyH_done (by kernel_rfl) ?_ _
      go_wp2
      go_roundw
      case rel => exact ⟨k + 1, by omega, by go_num, by rw [HN.out]; rfl, d3⟩
      case measure => simp [intOf]; omega
    · obtain rfl : k = n := by omega
      go_wp2
      go_ret
      exact ⟨rfl, hb⟩

set_option maxHeartbeats 1600000 in
theorem specC_NetText (a0_0 : Int) (a0_1 : Option Addr) (la0_1 ca0_1 : Nat) (xa0_1 : List RDitch) (w : World) (ha0_0 : (Lit.int .i64 a0_0).wf = true) (ha0_1 : la0_1 ≤ 1048576) (ra0_1 : Rd_Ditch w w.heap.size a0_1 la0_1 xa0_1) (fa0_1 : Wf_Ditch xa0_1) :
    Calls Tryd.prog 11 #[.agg #[.int .i64 a0_0, .slice a0_1 la0_1 ca0_1]] w fun e w' => e = .returned (.string (r0_NetText a0_0 xa0_1)) ∧ Below w.heap.size w w' := by
  have hln := ra0_1.len
  have RA := Lib.hid ra0_1
  clear ra0_1
  by_cases hv : NetOk a0_0 xa0_1
  · have HV := Lib.hid hv
    have HE := Lib.hid (show r0_NetText a0_0 xa0_1 = netB a0_0 xa0_1 la0_1 by rw [← hln]; exact if_pos hv)
    rw [HE.out]
    clear hv hln
    go_enter Tryd.func11, Tryd.ntmps11
    go_wp2_with (go_at_call 24; refine (l04Ok_any _ a0_0 a0_1 la0_1 ca0_1 xa0_1 _ (by first | omega | (simp; done) | (simp; omega)) ha0_1 ⟨by go_simp, by go_simp⟩ ((RA.out.below (by repeat (first | assumption | exact Below.refl _ _ | (refine Below.setCell ?_ (by first | omega | (simp; done) | (simp; omega)) _) | apply below_drewN | apply Below.drew | (refine Below.alloc ?_ (by first | omega | (simp; done) | (simp; omega)) _)))).mono (by first | omega | (simp; done) | (simp; omega))) true (by simp [HV.out])).mono ?_; rintro e w1 ⟨rfl, b1⟩; have s1 : w.heap.size < w1.heap.size := (by have := b1.size; simp at this; omega); obtain ⟨k1, f1⟩ := bcell b1; have z0 : w1.cell? ⟨w.heap.size, 0, none⟩ = some (.int .i64 a0_0) := (by rw [k1 _ _ (by first | omega | (simp; done) | (simp; omega))]; first | (simp; done) | go_simp); have zf0 : w1.frozen? ⟨w.heap.size, 0, none⟩ = false := (by rw [f1 _ _ (by first | omega | (simp; done) | (simp; omega))]; first | (simp; done) | go_simp); have z1 : w1.cell? ⟨w.heap.size, 1, none⟩ = some (.slice a0_1 la0_1 ca0_1) := (by rw [k1 _ _ (by first | omega | (simp; done) | (simp; omega))]; first | (simp; done) | go_simp); have zf1 : w1.frozen? ⟨w.heap.size, 1, none⟩ = false := (by rw [f1 _ _ (by first | omega | (simp; done) | (simp; omega))]; first | (simp; done) | go_simp); clear k1 f1; have d1 : Below w.heap.size w w1 := (by repeat (first | assumption | exact Below.refl _ _ | (refine Below.trans ?_ (b1.mono (by first | omega | (simp; done) | (simp; omega)))) | (refine Below.setCell ?_ (by first | omega | (simp; done) | (simp; omega)) _) | apply below_drewN | apply Below.drew | (refine Below.alloc ?_ (by first | omega | (simp; done) | (simp; omega)) _))))
    go_wp2_with (go_at_call 25; refine (l04Text_t _ a0_0 a0_1 la0_1 ca0_1 xa0_1 _ s1 ⟨z0, z1⟩ ((RA.out.below d1).mono (by omega)) HV.out).mono ?_; rintro e w2 ⟨rfl, b2⟩)
    go_ret
    exact ⟨rfl, d1.trans (b2.mono (by omega))⟩
  · have HV := Lib.hid hv
    have HE := Lib.hid (show r0_NetText a0_0 xa0_1 = ⟨#[]⟩ from if_neg hv)
    rw [HE.out]
    clear hv hln
    go_enter Tryd.func11, Tryd.ntmps11
    go_wp2_with (go_at_call 24; refine (l04Ok_any _ a0_0 a0_1 la0_1 ca0_1 xa0_1 _ (by first | omega | (simp; done) | (simp; omega)) ha0_1 ⟨by go_simp, by go_simp⟩ ((RA.out.below (by repeat (first | assumption | exact Below.refl _ _ | (refine Below.setCell ?_ (by first | omega | (simp; done) | (simp; omega)) _) | apply below_drewN | apply Below.drew | (refine Below.alloc ?_ (by first | omega | (simp; done) | (simp; omega)) _)))).mono (by first | omega | (simp; done) | (simp; omega))) false (by simp [HV.out])).mono ?_; rintro e w1 ⟨rfl, b1⟩; have d1 : Below w.heap.size w w1 := (by repeat (first | assumption | exact Below.refl _ _ | (refine Below.trans ?_ (b1.mono (by first | omega | (simp; done) | (simp; omega)))) | (refine Below.setCell ?_ (by first | omega | (simp; done) | (simp; omega)) _) | apply below_drewN | apply Below.drew | (refine Below.alloc ?_ (by first | omega | (simp; done) | (simp; omega)) _))))
    go_ret
    exact ⟨rfl, d1⟩

set_option maxRecDepth 100000 in
set_option maxHeartbeats 3200000 in
theorem implC_NetText (a0_0 : Int) (a0_1 : Option Addr) (la0_1 ca0_1 : Nat) (xa0_1 : List RDitch) (w : World) (ha0_0 : (Lit.int .i64 a0_0).wf = true) (ha0_1 : la0_1 ≤ 1048576) (ra0_1 : Rd_Ditch w w.heap.size a0_1 la0_1 xa0_1) (fa0_1 : Wf_Ditch xa0_1) (hpow : PowTab w) :
    Calls Tryd.prog 13 #[.agg #[.int .i64 a0_0, .slice a0_1 la0_1 ca0_1]] w fun e w' => e = .returned (.string (r0_NetText a0_0 xa0_1)) ∧ Below w.heap.size w w' := by
  have hln := ra0_1.len
  have RA := Lib.hid ra0_1
  have HT := Lib.hid hpow
  clear ra0_1 hpow
  by_cases hv : NetOk a0_0 xa0_1
  · have HOK := Lib.hid hv
    have h20 := hv.2.1
    have HE := Lib.hid (show r0_NetText a0_0 xa0_1 = netB a0_0 xa0_1 la0_1 by rw [← hln]; exact if_pos hv)
    rw [HE.out]
    have iJ : I64 a0_0 := ⟨by have := hv.1; omega, by have := hv.1; omega⟩
    have hz0 : (dB a0_0).size ≤ 21 := dB_size a0_0 iJ
    obtain ⟨t, ht⟩ : ∃ t, t = dB a0_0 := ⟨_, rfl⟩
    have HZ := Lib.hid (show netB a0_0 xa0_1 0 = t ++ ⟨#[58]⟩ by rw [ht]; rfl)
    rw [← ht] at hz0
    have ET := Lib.hid ht
    clear hv ht
    go_enter Tryd.func13, Tryd.ntmps13
    go_wp2_with (go_at_call 27; refine (impl_vnet a0_0 a0_1 la0_1 ca0_1 xa0_1 _ ha0_1 ((RA.out.below (by repeat (first | assumption | exact Below.refl _ _ | (refine Below.setCell ?_ (by first | omega | (simp; done) | (simp; omega)) _) | apply below_drewN | apply Below.drew | (refine Below.alloc ?_ (by first | omega | (simp; done) | (simp; omega)) _)))).mono (by first | omega | (simp; done) | (simp; omega))) true (by simp [HOK.out])).mono ?_; rintro e w1 ⟨rfl, b1⟩; have s1 : w.heap.size < w1.heap.size := (by have := b1.size; simp at this; omega); obtain ⟨k1, f1⟩ := bcell b1; have z0 : w1.cell? ⟨w.heap.size, 0, none⟩ = some (.int .i64 a0_0) := (by rw [k1 _ _ (by first | omega | (simp; done) | (simp; omega))]; first | (simp; done) | go_simp); have zf0 : w1.frozen? ⟨w.heap.size, 0, none⟩ = false := (by rw [f1 _ _ (by first | omega | (simp; done) | (simp; omega))]; first | (simp; done) | go_simp); have z1 : w1.cell? ⟨w.heap.size, 1, none⟩ = some (.slice a0_1 la0_1 ca0_1) := (by rw [k1 _ _ (by first | omega | (simp; done) | (simp; omega))]; first | (simp; done) | go_simp); have zf1 : w1.frozen? ⟨w.heap.size, 1, none⟩ = false := (by rw [f1 _ _ (by first | omega | (simp; done) | (simp; omega))]; first | (simp; done) | go_simp); clear k1 f1; have d1 : Below w.heap.size w w1 := (by repeat (first | assumption | exact Below.refl _ _ | (refine Below.trans ?_ (b1.mono (by first | omega | (simp; done) | (simp; omega)))) | (refine Below.setCell ?_ (by first | omega | (simp; done) | (simp; omega)) _) | apply below_drewN | apply Below.drew | (refine Below.alloc ?_ (by first | omega | (simp; done) | (simp; omega)) _))))
    have hB0 := Lib.hid (IsB.new w1)
    have D2 : Below w.heap.size w (w1.alloc (.cells #[.pointer none, .slice none 0 0] 61)) := d1.alloc (by omega) _
    go_wp2_with fail
    refine (dec_implT a0_0 t _ iJ (pow_below HT.out D2) ET.out).mono ?_
    rintro e w2 ⟨rfl, b2⟩
    have e1 : (w1.alloc (.cells #[.pointer none, .slice none 0 0] 61)).heap.size = w1.heap.size + 1 := by simp
    have s2 : w1.heap.size < w2.heap.size := by have := b2.size; omega
    have h2 := IsB.kept hB0.out b2
    have d2 : Below w.heap.size w w2 := D2.trans (b2.mono (by omega))
    have v0 : w2.cell? ⟨w.heap.size, 0, none⟩ = some (.int .i64 a0_0) := (b2.cell (p := ⟨w.heap.size, 0, none⟩) (show w.heap.size < _ by omega)).trans ((cell_alloc_old s1).trans z0)
    have v1 : w2.cell? ⟨w.heap.size, 1, none⟩ = some (.slice a0_1 la0_1 ca0_1) := (b2.cell (p := ⟨w.heap.size, 1, none⟩) (show w.heap.size < _ by omega)).trans ((cell_alloc_old s1).trans z1)
    clear b2 D2 e1
    go_wp2_with fail
    refine (writeString_t w1.heap.size w1.heap.size [] _ _ h2 (one_size t hz0) (by omega)).mono ?_
    rintro e w3 ⟨rfl, h3, b3, s3, _⟩
    have d3 : Below w.heap.size w w3 := d2.trans (b3.mono (by omega))
    have u0 : w3.cell? ⟨w.heap.size, 0, none⟩ = some (.int .i64 a0_0) := (b3.cell (p := ⟨w.heap.size, 0, none⟩) s1).trans v0
    have u1 : w3.cell? ⟨w.heap.size, 1, none⟩ = some (.slice a0_1 la0_1 ca0_1) := (b3.cell (p := ⟨w.heap.size, 1, none⟩) s1).trans v1
    rw [List.nil_append] at h3
    clear b3 v0 v1 h2
    have H3 := Lib.hid (show IsB w1.heap.size w1.heap.size (Lib.strCells (netB a0_0 xa0_1 0)) w3 by rw [HZ.out]; exact h3)
    clear h3
    go_wp2
    go_loopw [17] (fun i wr => ∃ k : Nat, k ≤ la0_1 ∧ i = .int .i64 (k : Int) ∧ Below w.heap.size w wr ∧ w1.heap.size < wr.heap.size ∧ Hid (IsB w1.heap.size w1.heap.size (Lib.strCells (netB a0_0 xa0_1 k)) wr)) (fun i _ => la0_1 - (intOf i).toNat)
    case atStart => exact ⟨0, by omega, rfl, d3, by omega, H3⟩
    case round =>
      obtain ⟨k, hk, rfl, hb, hsz1, hBu⟩ := hrel
      clear u0 u1 H3
      have hsz := hb.size
      by_cases hlt : k < la0_1
      · obtain ⟨ab, q, rfl, hB, hc⟩ := (RA.out.below hb).at (by omega)
        have p := hc k hlt
        clear hc
        obtain ⟨x, hx⟩ := getZ xa0_1 k
        rw [← hx] at p
        have HN := Lib.hid (show netB a0_0 xa0_1 (k + 1) = netB a0_0 xa0_1 k ++ ditchB x by rw [hx]; rfl)
        obtain ⟨i0, i1, i2⟩ := dok_i64 HOK.out.1 (show DOk a0_0 x by rw [hx]; exact HOK.out.2.2 k (by omega))
        have hzo := netB_size HOK.out k (by omega)
        clear hx
        obtain ⟨y0, y1, y2⟩ := x
        obtain ⟨q0, q1, q2⟩ := p
        simp only at q0 q1 q2 i0 i1 i2
        have hab : ab < wr.heap.size := by omega
        have z0 := dB_size y0 i0
        have z1 := dB_size y1 i1
        have z2 := dB_size y2 i2
        obtain ⟨t0, E0⟩ : ∃ t0, Hid (t0 = dB y0) := ⟨_, rfl⟩
        obtain ⟨t1, E1⟩ : ∃ t1, Hid (t1 = dB y1) := ⟨_, rfl⟩
        obtain ⟨t2, E2⟩ : ∃ t2, Hid (t2 = dB y2) := ⟨_, rfl⟩
        have HD := Lib.hid (show ditchB ⟨y0, y1, y2⟩ = ⟨#[32]⟩ ++ t0 ++ ⟨#[62]⟩ ++ t1 ++ ⟨#[61]⟩ ++ t2 by rw [E0.out, E1.out, E2.out]; rfl)
        rw [← E0.out] at z0
        rw [← E1.out] at z1
        rw [← E2.out] at z2
        obtain ⟨o, ho⟩ : ∃ o, o = netB a0_0 xa0_1 k := ⟨_, rfl⟩
        rw [← ho] at hzo hBu HN
        have hzo' : o.size ≤ 2000 := by omega
        have EO := Lib.hid ho
        clear ho
        have e0 : (wr.alloc (.cells #[.int .i64 y0, .int .i64 y1, .int .i64 y2] 67)).drew.heap.size = wr.heap.size + 1 := by show (World.alloc _ _).heap.size = _; simp
        have d0 : Below w.heap.size w (wr.alloc (.cells #[.int .i64 y0, .int .i64 y1, .int .i64 y2] 67)).drew := (hb.alloc (by omega) _).drew
        have h0 : IsB w1.heap.size w1.heap.size (Lib.strCells o) (wr.alloc (.cells #[.int .i64 y0, .int .i64 y1, .int .i64 y2] 67)).drew := IsB.kept hBu.out (((Below.refl _ _).alloc (Nat.le_refl _) _).drew)
        have g0 : (wr.alloc (.cells #[.int .i64 y0, .int .i64 y1, .int .i64 y2] 67)).drew.heap[wr.heap.size]? = some (.cells #[.int .i64 y0, .int .i64 y1, .int .i64 y2] 67 (0, 0)) := heap_alloc_new wr _
        go_wp2_with fail
        refine wp_region_held_drew (S := fun w' => w'.cell? ⟨wr.heap.size, 0, none⟩ = some (.int .i64 y0) ∧ w'.cell? ⟨wr.heap.size, 1, none⟩ = some (.int .i64 y1) ∧ w'.cell? ⟨wr.heap.size, 2, none⟩ = some (.int .i64 y2)) (by kernel_rfl) ⟨by simp, by simp, by simp⟩ (fun hHeld => ?_)
        ((refine wpAnyH_take (i := 0) (oi := ⟨some 21, _, _, _, _, _⟩) (v := ?_) rfl (by kernel_rfl) (by kernel_rfl) (by kernel_rfl) (fun _ _ _ h => h) (Or.inl ⟨by rfl, ?_⟩) (by assumption) ?_; rotate_left 1; (focus (intro w hSw; (try dsimp only at hSw); go_simp <;> try (first | (with_reducible rfl) | (rw [if_neg (by omega)])))); try simp only [Act.put, List.setIfInBounds_toArray, List.set_cons_zero, List.set_cons_succ]); (refine wpAnyH_take (i := 1) (oi := ⟨some 22, _, _, _, _, _⟩) (v := ?_) rfl (by kernel_rfl) (by kernel_rfl) (by kernel_rfl) (fun _ _ _ h => h) (Or.inl ⟨by rfl, ?_⟩) (by assumption) ?_; rotate_left 1; (focus (intro w hSw; (try dsimp only at hSw); go_simp <;> try (first | (with_reducible rfl) | (rw [if_neg (by omega)])))); try simp only [Act.put, List.setIfInBounds_toArray, List.set_cons_zero, List.set_cons_succ]); (refine wpAnyH_take (i := 5) (oi := ⟨some 26, _, _, _, _, _⟩) (v := ?_) rfl (by kernel_rfl) (by kernel_rfl) (by kernel_rfl) (fun _ _ _ h => h) (Or.inl ⟨by rfl, ?_⟩) (by assumption) ?_; rotate_left 1; (focus (intro w hSw; (try dsimp only at hSw); go_simp <;> try (first | (with_reducible rfl) | (rw [if_neg (by omega)])))); try simp only [Act.put, List.setIfInBounds_toArray, List.set_cons_zero, List.set_cons_succ]); (refine wpAnyH_take (i := 6) (oi := ⟨some 27, _, _, _, _, _⟩) (v := ?_) rfl (by kernel_rfl) (by kernel_rfl) (by kernel_rfl) (fun _ _ _ h => h) (Or.inl ⟨by rfl, ?_⟩) (by assumption) ?_; rotate_left 1; (focus (intro w hSw; (try dsimp only at hSw); go_simp <;> try (first | (with_reducible rfl) | (rw [if_neg (by omega)])))); try simp only [Act.put, List.setIfInBounds_toArray, List.set_cons_zero, List.set_cons_succ]); (refine wpAnyH_take (i := 10) (oi := ⟨some 31, _, _, _, _, _⟩) (v := ?_) rfl (by kernel_rfl) (by kernel_rfl) (by kernel_rfl) (fun _ _ _ h => h) (Or.inl ⟨by rfl, ?_⟩) (by assumption) ?_; rotate_left 1; (focus (intro w hSw; (try dsimp only at hSw); go_simp <;> try (first | (with_reducible rfl) | (rw [if_neg (by omega)])))); try simp only [Act.put, List.setIfInBounds_toArray, List.set_cons_zero, List.set_cons_succ]); (refine wpAnyH_take (i := 11) (oi := ⟨some 32, _, _, _, _, _⟩) (v := ?_) rfl (by kernel_rfl) (by kernel_rfl) (by kernel_rfl) (fun _ _ _ h => h) (Or.inl ⟨by rfl, ?_⟩) (by assumption) ?_; rotate_left 1; (focus (intro w hSw; (try dsimp only at hSw); go_simp <;> try (first | (with_reducible rfl) | (rw [if_neg (by omega)])))); try simp only [Act.put, List.setIfInBounds_toArray, List.set_cons_zero, List.set_cons_succ]))
        (refine wpAnyH_ready (rs := [2]) (by kernel_rfl) (by simp) ?_; refine AllReadyH.cons rfl (fun K hK => ?_) AllReadyH.nil; go_simp)
        refine (dec_implT y0 t0 _ i0 (pow_below HT.out d0) E0.out).mono ?_
        rintro e1 W1 ⟨rfl, b1⟩
        have s1 : wr.heap.size < W1.heap.size := by have := b1.size; omega
        have d1 : Below w.heap.size w W1 := d0.trans (b1.mono (by omega))
        have h1 := IsB.kept h0 b1
        have g1 := (b1.block wr.heap.size (by omega)).trans g0
        have z1_0 := (b1.cell (p := ⟨wr.heap.size, 0, none⟩) (show wr.heap.size < _ by omega)).trans hHeld.1
        have z1_1 := (b1.cell (p := ⟨wr.heap.size, 1, none⟩) (show wr.heap.size < _ by omega)).trans hHeld.2.1
        have z1_2 := (b1.cell (p := ⟨wr.heap.size, 2, none⟩) (show wr.heap.size < _ by omega)).trans hHeld.2.2
        clear hHeld
        (refine hK.out _ _ ?_ (fun hHeld => ?_))
        · exact ⟨z1_0, z1_1, z1_2⟩
        ((refine wpAnyH_take (i := 3) (oi := ⟨some 24, _, _, _, _, _⟩) (v := ?_) rfl (by kernel_rfl) (by kernel_rfl) (by kernel_rfl) (fun _ _ _ h => h) (Or.inl ⟨by rfl, ?_⟩) (by assumption) ?_; rotate_left 1; (focus (intro w hSw; (try dsimp only at hSw); go_simp <;> try (first | (with_reducible rfl) | (rw [if_neg (by omega)])))); try simp only [Act.put, List.setIfInBounds_toArray, List.set_cons_zero, List.set_cons_succ]); (refine wpAnyH_take (i := 4) (oi := ⟨some 25, _, _, _, _, _⟩) (v := ?_) rfl (by kernel_rfl) (by kernel_rfl) (by kernel_rfl) (fun _ _ _ h => h) (Or.inl ⟨by rfl, ?_⟩) (by assumption) ?_; rotate_left 1; (focus (intro w hSw; (try dsimp only at hSw); go_simp <;> try (first | (with_reducible rfl) | (rw [if_neg (by omega)])))); try simp only [Act.put, List.setIfInBounds_toArray, List.set_cons_zero, List.set_cons_succ]))
        (refine wpAnyH_ready (rs := [7]) (by kernel_rfl) (by simp) ?_; refine AllReadyH.cons rfl (fun K hK => ?_) AllReadyH.nil; go_simp)
        refine (dec_implT y1 t1 _ i1 (pow_below HT.out d1) E1.out).mono ?_
        rintro e2 W2 ⟨rfl, b2⟩
        have s2 : wr.heap.size < W2.heap.size := by have := b2.size; omega
        have d2 : Below w.heap.size w W2 := d1.trans (b2.mono (by omega))
        have h2 := IsB.kept h1 b2
        have g2 := (b2.block wr.heap.size (by omega)).trans g1
        have z2_0 := (b2.cell (p := ⟨wr.heap.size, 0, none⟩) (show wr.heap.size < _ by omega)).trans hHeld.1
        have z2_1 := (b2.cell (p := ⟨wr.heap.size, 1, none⟩) (show wr.heap.size < _ by omega)).trans hHeld.2.1
        have z2_2 := (b2.cell (p := ⟨wr.heap.size, 2, none⟩) (show wr.heap.size < _ by omega)).trans hHeld.2.2
        clear hHeld
        (refine hK.out _ _ ?_ (fun hHeld => ?_))
        · exact ⟨z2_0, z2_1, z2_2⟩
        ((refine wpAnyH_take (i := 8) (oi := ⟨some 29, _, _, _, _, _⟩) (v := ?_) rfl (by kernel_rfl) (by kernel_rfl) (by kernel_rfl) (fun _ _ _ h => h) (Or.inl ⟨by rfl, ?_⟩) (by assumption) ?_; rotate_left 1; (focus (intro w hSw; (try dsimp only at hSw); go_simp <;> try (first | (with_reducible rfl) | (rw [if_neg (by omega)])))); try simp only [Act.put, List.setIfInBounds_toArray, List.set_cons_zero, List.set_cons_succ]); (refine wpAnyH_take (i := 9) (oi := ⟨some 30, _, _, _, _, _⟩) (v := ?_) rfl (by kernel_rfl) (by kernel_rfl) (by kernel_rfl) (fun _ _ _ h => h) (Or.inl ⟨by rfl, ?_⟩) (by assumption) ?_; rotate_left 1; (focus (intro w hSw; (try dsimp only at hSw); go_simp <;> try (first | (with_reducible rfl) | (rw [if_neg (by omega)])))); try simp only [Act.put, List.setIfInBounds_toArray, List.set_cons_zero, List.set_cons_succ]))
        (refine wpAnyH_ready (rs := [12]) (by kernel_rfl) (by simp) ?_; refine AllReadyH.cons rfl (fun K hK => ?_) AllReadyH.nil; go_simp)
        refine (dec_implT y2 t2 _ i2 (pow_below HT.out d2) E2.out).mono ?_
        rintro e3 W3 ⟨rfl, b3⟩
        have s3 : wr.heap.size < W3.heap.size := by have := b3.size; omega
        have d3 : Below w.heap.size w W3 := d2.trans (b3.mono (by omega))
        have h3 := IsB.kept h2 b3
        have g3 := (b3.block wr.heap.size (by omega)).trans g2
        have z3_0 := (b3.cell (p := ⟨wr.heap.size, 0, none⟩) (show wr.heap.size < _ by omega)).trans hHeld.1
        have z3_1 := (b3.cell (p := ⟨wr.heap.size, 1, none⟩) (show wr.heap.size < _ by omega)).trans hHeld.2.1
        have z3_2 := (b3.cell (p := ⟨wr.heap.size, 2, none⟩) (show wr.heap.size < _ by omega)).trans hHeld.2.2
        clear hHeld
        (refine hK.out _ _ ?_ (fun hHeld => ?_))
        · exact ⟨z3_0, z3_1, z3_2⟩
        ((refine wpAnyH_take (i := 13) (oi := ⟨some 34, _, _, _, _, _⟩) (v := ?_) rfl (by kernel_rfl) (by kernel_rfl) (by kernel_rfl) (fun _ _ _ h => h) (Or.inl ⟨by rfl, ?_⟩) (by assumption) ?_; rotate_left 1; (focus (intro w hSw; (try dsimp only at hSw); go_simp <;> try (first | (with_reducible rfl) | (rw [if_neg (by omega)])))); try simp only [Act.put, List.setIfInBounds_toArray, List.set_cons_zero, List.set_cons_succ]))
        (refine wpAnyH_ready (rs := [14]) (by kernel_rfl) (by simp) ?_; refine AllReadyH.cons rfl (fun K hK => ?_) AllReadyH.nil; go_simp)
        refine (writeString_t w1.heap.size w1.heap.size _ _ _ h3 (ditch_size o t0 t1 t2 hzo' z0 z1 z2) (by omega)).mono ?_
        rintro e4 W4 ⟨rfl, h4, b4, s4, o4⟩
        have g4 := kept_box o4 g3 (show wr.heap.size ≠ w1.heap.size by omega) (by decide)
        have d4 : Below w.heap.size w W4 := d3.trans (b4.mono (by omega))
        clear hHeld
        (refine hK.out _ _ ?_ (fun hHeld => ?_))
        · exact ⟨Lib.cell_of_heap g4 0, Lib.cell_of_heap g4 1, Lib.cell_of_heap g4 2⟩
        refine wpAnyH_done (by kernel_rfl) ?_ _
        go_wp2
        go_roundw
        case rel => exact ⟨k + 1, by omega, by go_num, d4, by omega, by rw [HN.out, HD.out, strCells_app]; exact h4⟩
        case measure => simp [intOf]; omega
      · obtain rfl : k = la0_1 := by omega
        go_wp2_with (go_at_call 29; refine (string_t w1.heap.size w1.heap.size (netB a0_0 xa0_1 k) _ hBu.out (by omega)).mono ?_; rintro e w5 ⟨rfl, b5⟩)
        go_ret
        exact ⟨rfl, hb.trans (b5.mono (by omega))⟩
  · have HV := Lib.hid hv
    have HE := Lib.hid (show r0_NetText a0_0 xa0_1 = ⟨#[]⟩ from if_neg hv)
    rw [HE.out]
    clear hv hln
    go_enter Tryd.func13, Tryd.ntmps13
    go_wp2_with (go_at_call 27; refine (impl_vnet a0_0 a0_1 la0_1 ca0_1 xa0_1 _ ha0_1 ((RA.out.below (by repeat (first | assumption | exact Below.refl _ _ | (refine Below.setCell ?_ (by first | omega | (simp; done) | (simp; omega)) _) | apply below_drewN | apply Below.drew | (refine Below.alloc ?_ (by first | omega | (simp; done) | (simp; omega)) _)))).mono (by first | omega | (simp; done) | (simp; omega))) false (by simp [HV.out])).mono ?_; rintro e w1 ⟨rfl, b1⟩; have d1 : Below w.heap.size w w1 := (by repeat (first | assumption | exact Below.refl _ _ | (refine Below.trans ?_ (b1.mono (by first | omega | (simp; done) | (simp; omega)))) | (refine Below.setCell ?_ (by first | omega | (simp; done) | (simp; omega)) _) | apply below_drewN | apply Below.drew | (refine Below.alloc ?_ (by first | omega | (simp; done) | (simp; omega)) _))))
    go_ret
    exact ⟨rfl, d1⟩

end Go.Proofs.YtneabcfpdkndkaaDoor
