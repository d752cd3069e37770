/- Floods: how deep the water is, and how much: both sides. -/
import Derived.Test.YthnioohiceohkaaFloI
import Derived.Test.YthnioohiceohkaaSumD
namespace Go.Proofs.Ythnioohiceohkaa
open Go.RowKit

/-- how deep the water is in a cell -/
def depK (lv : Int) (xs : List Int) (M : Nat → Bool) (k : Nat) : Int := if M k = true then lv - xs.getD k 0 else 0
def depN (lv : Int) (xs : List Int) (M : Nat → Bool) : Nat → List Int
  | 0 => []
  | k + 1 => depN lv xs M k ++ [depK lv xs M k]
theorem depN_len (lv : Int) (xs : List Int) (M : Nat → Bool) (k : Nat) : (depN lv xs M k).length = k := by
  induction k with
  | zero => rfl
  | succ k ih => simp [depN, ih]
theorem depN_at (lv : Int) (xs : List Int) (M : Nat → Bool) (n j : Nat) (hj : j < n) : (depN lv xs M n).getD j 0 = depK lv xs M j := by
  induction n with
  | zero => omega
  | succ n ih =>
    simp only [depN, List.getD_eq_getElem?_getD]
    by_cases e : j = n
    · subst e
      rw [List.getElem?_append_right (by rw [depN_len]; omega), depN_len]
      simp
    · rw [List.getElem?_append_left (by rw [depN_len]; omega), ← List.getD_eq_getElem?_getD]
      exact ih (by omega)
theorem depK_bd {r c lv : Int} {xs : List Int} (h : LandOk r c xs) (hl : lvl lv) (M : Nat → Bool) (k : Nat) (hk : k < xs.length) : -5000 ≤ depK lv xs M k ∧ depK lv xs M k ≤ 5000 := by
  have h1 := h.2.2.2 k hk
  unfold lvl at hl
  unfold depK
  split <;> omega

set_option maxRecDepth 100000 in
set_option maxHeartbeats 3200000 in
theorem l11Depths_t (b : Nat) (r c : Int) (A : Option Addr) (n k : Nat) (xs : List Int) (x : Nat) (lv : Int) (w : World) (hv : LandOk r c xs) (hlv : lvl lv) (ha : Rd w w.heap.size A n xs) (hx : x < n) (hl : LandAt w b r c A n k) (hb : b < w.heap.size) (L : List Int) (hL : L = depN lv xs (wetB r c lv xs n x) n) :
    Calls Try.prog 29 #[.pointer (some ⟨b, 0, none⟩), .int .i64 (x : Int), .int .i64 lv] w fun e w' => ∃ B d, e = .returned (.slice B n d) ∧ Below w.heap.size w w' ∧ Wr w' w.heap.size B n L := by
  have hln := ha.1
  have hlen := hv.len
  have RA := Lib.hid ha
  have H := Lib.hid hv
  have HL := Lib.hid hL
  have HT := Lib.hid hl
  obtain ⟨b0, o0, rfl, hb0, hc0⟩ := ha.2 (by omega)
  have HC := Lib.hid hc0
  obtain ⟨M, hM⟩ : ∃ M, M = wetB r c lv xs n x := ⟨_, rfl⟩
  have HM := Lib.hid hM
  have n144 : n ≤ 144 := by omega
  have HB := Lib.hid (fun (j : Nat) (hj : j < n) => hv.2.2.2 j (by omega))
  obtain ⟨l1, l2⟩ := id hlv
  clear hv ha hc0 hL hM hlen hl
  go_enter Try.func29, Try.ntmps29
  go_wp2_with (go_at_call 54; refine (l11Wet_t b r c _ n k xs x lv _ H.out RA.out hx HT.out hb M HM.out).mono ?_; rintro e1 W1 ⟨g, d, rfl, b1, g1, s1⟩)
  have z1 := b1.size
  go_loopw [8, 9, 10] (fun v i _ wr => ∃ q : Nat, q ≤ n ∧ i = .int .i64 (q : Int) ∧ Below W1.heap.size W1 wr ∧ wr.ownsRow W1.heap.size 2 1 v q ((depN lv xs M q).map (Value.int .i64))) (fun _ i _ _ => n - (intOf i).toNat)
  case atStart => exact ⟨0, by omega, rfl, (Below.refl _ _).alloc (Nat.le_refl _) _, owns_made rfl (Nat.le_refl _)⟩
  case round =>
    obtain ⟨q, hq, rfl, hb2, hown⟩ := hrel
    have z2 := hb2.size
    have dd : Below w.heap.size w wr := b1.trans (hb2.mono z1)
    by_cases hlt : q < n
    · have c1 := ((s1.below hb2 s1.1).2 q hlt).1
      obtain ⟨y0, y1, y2⟩ := HT.out.below dd hb
      have c2 := (dd.cell (p := ⟨b0, o0 + q, none⟩) hb0).trans (HC.out q hlt)
      obtain ⟨v1, v2⟩ := HB.out q hlt
      have HS := Lib.hid (show depN lv xs M (q + 1) = depN lv xs M q ++ [depK lv xs M q] from rfl)
      have hdk : depK lv xs M q = if M q = true then lv - xs.getD q 0 else 0 := rfl
      obtain ⟨xz, hxz⟩ : ∃ v, v = xs.getD q 0 := ⟨_, rfl⟩
      rw [← hxz] at c2 v1 v2 hdk
      generalize depN lv xs M q = L0 at *
      cases hm : M q with
      | true =>
        rw [hm] at c1
        rw [hm, if_pos rfl] at hdk
        have HD := Lib.hid hdk
        have i1 := IntWalk.i64_in (lv - xz) (by omega)
        clear hdk hm hxz
        go_wp2_with (at_builtin; refine wpl_app1x rfl _ _ rfl _ _ rfl W1.heap.size q _ L0 (lv - xz) rfl (by exact hown) rfl (by omega) (by omega) ?_; intro v1 w1 hown1 hb1 hz1)
        go_roundw
        case rel => exact ⟨q + 1, by omega, by go_num, hb2.trans (hb1.mono (by omega)), by rw [HS.out, HD.out]; exact hown1⟩
        case measure => simp [intOf]; omega
      | false =>
        rw [hm] at c1
        rw [hm, if_neg (by simp)] at hdk
        have HD := Lib.hid hdk
        clear hdk hm hxz
        go_wp2_with (at_builtin; refine wpl_app1x rfl _ _ rfl _ _ rfl W1.heap.size q _ L0 0 rfl (by exact hown) rfl (by omega) (by omega) ?_; intro v1 w1 hown1 hb1 hz1)
        go_roundw
        case rel => exact ⟨q + 1, by omega, by go_num, hb2.trans (hb1.mono (by omega)), by rw [HS.out, HD.out]; exact hown1⟩
        case measure => simp [intOf]; omega
    · obtain rfl : q = n := by omega
      have e9 : depN lv xs M q = L := by rw [HL.out, HM.out]
      rw [e9] at hown
      obtain ⟨B, d', rfl, hw⟩ := own_wr hown
      go_wp2
      go_ret
      first
      | exact ⟨B, d', rfl, dd, hw.lower z1⟩
      | exact ⟨B, ⟨d', rfl⟩, dd, hw.lower z1⟩

set_option maxRecDepth 100000 in
set_option maxHeartbeats 3200000 in
theorem depthsAt_t (r c : Int) (A : Option Addr) (n k : Nat) (xs : List Int) (x : Nat) (lv : Int) (w : World) (hv : LandOk r c xs) (hlv : lvl lv) (ha : Rd w w.heap.size A n xs) (hx : x < n) (L : List Int) (hL : L = depN lv xs (wetB r c lv xs n x) n) :
    Calls Try.prog 99 #[.agg #[.int .i64 r, .int .i64 c, .slice A n k, .int .i64 (x : Int)], .int .i64 lv] w fun e w' => ∃ B d, e = .returned (.slice B n d) ∧ Below w.heap.size w w' ∧ Wr w' w.heap.size B n L := by
  have hln := ha.1
  have hlen := hv.len
  have RA := Lib.hid ha
  have H := Lib.hid hv
  have HL := Lib.hid hL
  obtain ⟨b0, o0, rfl, hb0, hc0⟩ := ha.2 (by omega)
  have HC := Lib.hid hc0
  obtain ⟨M, hM⟩ : ∃ M, M = wetB r c lv xs n x := ⟨_, rfl⟩
  have n144 : n ≤ 144 := by omega
  have HB := Lib.hid (fun (j : Nat) (hj : j < n) => hv.2.2.2 j (by omega))
  obtain ⟨l1, l2⟩ := id hlv
  obtain ⟨hz9, hi9⟩ := zero_of_info (P := Try.prog) (t := 66) (v := .agg (bcs fun _ => false)) (n := 144) (by kernel_rfl)
  obtain ⟨R, hR⟩ : ∃ R, R = bcs M := ⟨_, rfl⟩
  have hR9 : R.size = 144 := by rw [hR]; exact bcs_size _
  have HR := Lib.hid hR
  have HR2 := Lib.hid (show R = bcs (wetB r c lv xs n x) by rw [hR, hM])
  have HM := Lib.hid hM
  obtain ⟨i0, hi, hz0, hz1, hz2⟩ := info_parts info_i64
  have hmk := fun W => run_make_rowN (P := Try.prog) 22 2 i0 (.int .i64 0) Try.underlying22 hi hz0 .i64 .i64 n n (Nat.le_refl _) (by rw [hz2]; omega) (by omega) W
  rw [hz1] at hmk
  obtain ⟨cs, hcs⟩ : ∃ cs, cs = madeCells (Value.int .i64 0).cells (n * 1) := ⟨_, rfl⟩
  rw [← hcs] at hmk
  have HCS := Lib.hid hcs
  clear hv ha hc0 hL hM hlen hR hcs hi hz0 hz1 hz2
  go_enter Try.func99, Try.ntmps99
  go_wp2_with (go_at_call 100; refine (cellsAt_t r c _ n k xs x lv _ H.out ((RA.out.below (by repeat (first | assumption | exact Below.refl _ _ | (refine Below.setCell ?_ (by first | omega | (simp; done) | (simp; omega)) _) | apply below_drewN | apply Below.drew | (refine Below.alloc ?_ (by first | omega | (simp; done) | (simp; omega)) _)))).mono (by first | omega | (simp; done) | (simp; omega))) hx R HR2.out).mono ?_; rintro e2 W2 ⟨rfl, b2⟩; obtain ⟨k1, f1⟩ := bcell b2; have y0 : W2.cell? ⟨w.heap.size, 0, none⟩ = some (.int .i64 r) := (by rw [k1 _ _ (by first | omega | (simp; done) | (simp; omega))]; first | (simp; done) | go_simp); have yf0 : W2.frozen? ⟨w.heap.size, 0, none⟩ = false := (by rw [f1 _ _ (by first | omega | (simp; done) | (simp; omega))]; first | (simp; done) | go_simp); have y1 : W2.cell? ⟨w.heap.size, 1, none⟩ = some (.int .i64 c) := (by rw [k1 _ _ (by first | omega | (simp; done) | (simp; omega))]; first | (simp; done) | go_simp); have yf1 : W2.frozen? ⟨w.heap.size, 1, none⟩ = false := (by rw [f1 _ _ (by first | omega | (simp; done) | (simp; omega))]; first | (simp; done) | go_simp); have y2 : W2.cell? ⟨w.heap.size, 2, none⟩ = some (.slice (some ⟨b0, o0, none⟩) n k) := (by rw [k1 _ _ (by first | omega | (simp; done) | (simp; omega))]; first | (simp; done) | go_simp); have yf2 : W2.frozen? ⟨w.heap.size, 2, none⟩ = false := (by rw [f1 _ _ (by first | omega | (simp; done) | (simp; omega))]; first | (simp; done) | go_simp); have y3 : W2.cell? ⟨w.heap.size, 3, none⟩ = some (.int .i64 (x : Int)) := (by rw [k1 _ _ (by first | omega | (simp; done) | (simp; omega))]; first | (simp; done) | go_simp); have yf3 : W2.frozen? ⟨w.heap.size, 3, none⟩ = false := (by rw [f1 _ _ (by first | omega | (simp; done) | (simp; omega))]; first | (simp; done) | go_simp); clear k1 f1; have s2 : w.heap.size < W2.heap.size := (by have := b2.size; simp at this; omega); have d2 : Below w.heap.size w W2 := (by repeat (first | assumption | exact Below.refl _ _ | (refine Below.trans ?_ (b2.mono (by first | omega | (simp; done) | (simp; omega)))) | (refine Below.setCell ?_ (by first | omega | (simp; done) | (simp; omega)) _) | apply below_drewN | apply Below.drew | (refine Below.alloc ?_ (by first | omega | (simp; done) | (simp; omega)) _))); clear b2; have iN := IsB.new W2 (fun _ => false); have l4 := iN.storeCells (R := M); have iM := iN.setRow M; have d3 : Below w.heap.size w ((W2.alloc (.cells (bcs fun _ => false) 66)).setRow W2.heap.size (bcs M)) := below_setRowB (by repeat (first | assumption | exact Below.refl _ _ | (refine Below.trans ?_ (d2.mono (by first | omega | (simp; done) | (simp; omega)))) | (refine Below.setCell ?_ (by first | omega | (simp; done) | (simp; omega)) _) | apply below_drewN | apply Below.drew | (refine Below.alloc ?_ (by first | omega | (simp; done) | (simp; omega)) _))) (by omega) _; have dA : Below W2.heap.size W2 ((W2.alloc (.cells (bcs fun _ => false) 66)).setRow W2.heap.size (bcs M)) := below_setRowB (by repeat (first | assumption | exact Below.refl _ _ | (refine Below.setCell ?_ (by first | omega | (simp; done) | (simp; omega)) _) | apply below_drewN | apply Below.drew | (refine Below.alloc ?_ (by first | omega | (simp; done) | (simp; omega)) _))) (by omega) _; rw [← HR.out] at l4 iM d3 dA; have u2 := (dA.cell (p := ⟨w.heap.size, 2, none⟩) (show w.heap.size < W2.heap.size from (by first | omega | (simp; done) | (simp; omega)))).trans y2; have uz : ((W2.alloc (.cells (bcs fun _ => false) 66)).setRow W2.heap.size R).heap.size = W2.heap.size + 1 := (by simp))
  obtain ⟨W3, hW3⟩ : ∃ W3, W3 = ((W2.alloc (.cells (bcs fun _ => false) 66)).setRow W2.heap.size R) := ⟨_, rfl⟩
  rw [← hW3] at iM d3 dA u2 uz ⊢
  have hN : Half n (W2.heap.size + 1) 0 (depK lv xs M) (List.replicate n 0) 0 (W3.alloc (.cells cs 2)) := by rw [HCS.out, ← uz]; exact Half.new W3 n _ _ (n * 1) (by omega)
  have iM2 : IsB W3 W2.heap.size M := iM
  have g3 := iM2.lt
  clear hW3 l4 iN
  go_loopw [7, 8, 21] (fun _ _ i wr => ∃ q : Nat, q ≤ n ∧ i = .int .i64 (q : Int) ∧ Below W3.heap.size W3 wr ∧ W3.heap.size < wr.heap.size ∧ Hid (Half n (W2.heap.size + 1) 0 (depK lv xs M) (List.replicate n 0) q wr)) (fun _ _ i _ => n - (intOf i).toNat)
  case atStart => exact ⟨0, by omega, rfl, (Below.refl _ _).alloc (Nat.le_refl _) _, by simp, hN⟩
  case round =>
    obtain ⟨q, hq, rfl, hb2, hz2, hH⟩ := hrel
    have dd : Below w.heap.size w wr := d3.trans (hb2.mono (by omega))
    by_cases hlt : q < n
    · have c1 := (iM2.below hb2 g3).cell (k := q) (by omega)
      have c2 := (dd.cell (p := ⟨b0, o0 + q, none⟩) hb0).trans (HC.out q hlt)
      have c3 := (hb2.cell (p := ⟨w.heap.size, 2, none⟩) (show w.heap.size < W3.heap.size by omega)).trans u2
      obtain ⟨v1, v2⟩ := HB.out q hlt
      obtain ⟨hc, hf⟩ := hH.out q hlt
      rw [if_neg (by omega)] at hc
      rw [Nat.zero_add] at hc hf
      have hdk : depK lv xs M q = if M q = true then lv - xs.getD q 0 else 0 := rfl
      have hr0 : (List.replicate n (0 : Int)).getD q 0 = 0 := by simp [List.getD_eq_getElem?_getD, hlt]
      rw [hr0] at hc
      obtain ⟨xz, hxz⟩ : ∃ v, v = xs.getD q 0 := ⟨_, rfl⟩
      rw [← hxz] at c2 v1 v2 hdk
      have hne1 : ¬ W2.heap.size + 1 = W2.heap.size := by omega
      cases hm : M q with
      | true =>
        rw [hm] at c1
        rw [hm, if_pos rfl] at hdk
        have HD := Lib.hid hdk
        have i1 := IntWalk.i64_in (lv - xz) (by omega)
        clear hdk hm hxz
        go_wp2
        go_roundw
        case rel => exact ⟨q + 1, by omega, by go_num, hb2.setCell (by simp; omega) _, by simp [World.setCell]; omega, by have := hH.out.step (lv - xz) HD.out.symm; rw [Nat.zero_add] at this; exact this⟩
        case measure => simp [intOf]; omega
      | false =>
        rw [hm] at c1
        rw [hm, if_neg (by simp)] at hdk
        have HD := Lib.hid hdk
        clear hdk hm hxz
        go_wp2
        go_roundw
        case rel => exact ⟨q + 1, by omega, by go_num, hb2, hz2, fun j hj => by
          obtain ⟨h1, h2⟩ := hH.out j hj
          refine ⟨?_, h2⟩
          rw [h1]
          by_cases e : j = q
          · subst e
            rw [if_neg (by omega), if_pos (by omega), HD.out, hr0]
          · by_cases h3 : j < q
            · rw [if_pos h3, if_pos (by omega)]
            · rw [if_neg h3, if_neg (by omega)]⟩
        case measure => simp [intOf]; omega
    · obtain rfl : q = n := by omega
      have hw := hH.out.done (base := W2.heap.size + 1) (ys := L) (by rw [HL.out, depN_len]) (fun j hj => by rw [HL.out, ← HM.out]; exact depN_at lv xs M q j hj) (Nat.le_refl _) (by omega)
      go_wp2
      go_ret
      first
      | exact ⟨some ⟨W2.heap.size + 1, 0, none⟩, _, rfl, dd, hw.lower (show w.heap.size ≤ W2.heap.size + 1 by omega)⟩
      | exact ⟨some ⟨W2.heap.size + 1, 0, none⟩, ⟨_, rfl⟩, dd, hw.lower (show w.heap.size ≤ W2.heap.size + 1 by omega)⟩

theorem volumeAt_t (r c : Int) (A : Option Addr) (n k : Nat) (xs : List Int) (x : Nat) (lv : Int) (w : World) (hv : LandOk r c xs) (hlv : lvl lv) (ha : Rd w w.heap.size A n xs) (hx : x < n) (q : Int) (hq : q = sumN (depN lv xs (wetB r c lv xs n x) n) n) :
    Calls Try.prog 97 #[.agg #[.int .i64 r, .int .i64 c, .slice A n k, .int .i64 (x : Int)], .int .i64 lv] w fun e w' => e = .returned (.int .i64 q) ∧ Below w.heap.size w w' := by
  have hln := ha.1
  have hlen := hv.len
  have RA := Lib.hid ha
  have H := Lib.hid hv
  obtain ⟨L, hL⟩ : ∃ L, L = depN lv xs (wetB r c lv xs n x) n := ⟨_, rfl⟩
  have HL := Lib.hid hL
  have HQ := Lib.hid (show q = sumN L n by rw [hq, hL])
  have HB := Lib.hid (show ∀ j, j < n → -5000 ≤ L.getD j 0 ∧ L.getD j 0 ≤ 5000 from fun j hj => by rw [hL, depN_at lv xs _ n j hj]; exact depK_bd hv hlv _ j (by omega))
  clear hv ha hL hq
  go_enter Try.func97, Try.ntmps97
  go_wp2_with (first | (go_at_call 99; refine (depthsAt_t r c _ n k xs x lv _ H.out hlv ((RA.out.below (by repeat (first | assumption | exact Below.refl _ _ | (refine Below.setCell ?_ (by first | omega | (simp; done) | (simp; omega)) _) | apply below_drewN | apply Below.drew | (refine Below.alloc ?_ (by first | omega | (simp; done) | (simp; omega)) _)))).mono (by first | omega | (simp; done) | (simp; omega))) hx L HL.out).mono ?_; rintro e1 W1 ⟨B, d, rfl, b1, x1⟩; have d1 : Below w.heap.size w W1 := (by repeat (first | assumption | exact Below.refl _ _ | (refine Below.trans ?_ (b1.mono (by first | omega | (simp; done) | (simp; omega)))) | (refine Below.setCell ?_ (by first | omega | (simp; done) | (simp; omega)) _) | apply below_drewN | apply Below.drew | (refine Below.alloc ?_ (by first | omega | (simp; done) | (simp; omega)) _)))) | (go_at_call 98; refine (impl_sumD _ n _ L _ (by omega) x1.rd HB.out).mono ?_; rintro e2 W2 ⟨rfl, rfl⟩))
  go_ret
  exact ⟨ret_int HQ.out.symm, d1⟩

end Go.Proofs.Ythnioohiceohkaa
