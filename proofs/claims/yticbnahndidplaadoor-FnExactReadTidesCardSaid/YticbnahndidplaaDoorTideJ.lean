/- Tides of the program: whether a table is one, codes. -/
import Derived.Test.YticbnahndidplaaDoorTideH
namespace Go.Proofs.YticbnahndidplaaDoor
open Go.RowKit

theorem minsOf_get (xs : List RTide) (j : Nat) : (minsOf xs).getD j 0 = (xs.getD j zTide).f0 := by
  rcases Nat.lt_or_ge j xs.length with h | h
  · exact minsOf_at h
  · simp [minsOf, List.getD_eq_getElem?_getD, List.getElem?_eq_none h, zTide]

theorem half_alloc {n b o : Nat} {f : Nat → Int} {xs : List Int} {k : Nat} {w : World} (h : Half n b o f xs k w) (hb : b < w.heap.size) (O : Obj) : Half n b o f xs k (w.alloc O) := fun j hj =>
  ⟨(((Below.refl w.heap.size w).alloc (Nat.le_refl _) O).cell (p := ⟨b, o + j, none⟩) hb).trans (h j hj).1, (((Below.refl w.heap.size w).alloc (Nat.le_refl _) O).frozen (p := ⟨b, o + j, none⟩) hb).trans (h j hj).2⟩

set_option maxHeartbeats 1600000 in
theorem minutes_t (A : Option Addr) (n c : Nat) (xs : List RTide) (w : World) (hn : n ≤ 1048576) (ha : Rd_Tide w w.heap.size A n xs) :
    Calls Tryd.prog 90 #[.slice A n c] w fun e w' => ∃ B d, e = .returned (.slice B n d) ∧ Below w.heap.size w w' ∧ Wr w' w.heap.size B n (minsOf xs) := by
  have hln := ha.len
  have HA := Lib.hid ha
  have HL := Lib.hid (show (minsOf xs).length = n by rw [minsOf_len, hln])
  obtain ⟨i0, hi, hz0, hz1, hz2⟩ := info_parts info_i64
  have hmk := fun W => run_make_rowN (P := Tryd.prog) 45 2 i0 (.int .i64 0) Tryd.underlying45 hi hz0 .i64 .i64 n n (Nat.le_refl _) (by rw [hz2]; omega) (by omega) W
  rw [hz1] at hmk
  obtain ⟨F, hF⟩ : ∃ F : Nat → Int, F = fun j => tM xs j := ⟨_, rfl⟩
  have EF := Lib.hid hF
  clear hi hz0 hz1 hz2 ha hF
  go_enter Tryd.func90, Tryd.ntmps90
  go_wp2
  go_loopw [4, 5, 11] (fun _ _ i wr => ∃ k : Nat, k ≤ n ∧ i = .int .i64 (k : Int) ∧ Below w.heap.size w wr ∧ w.heap.size < wr.heap.size ∧ Half n w.heap.size 0 F (List.replicate n 0) k wr) (fun _ _ i _ => n - (intOf i).toNat)
  case atStart => exact ⟨0, by omega, rfl, (Below.refl _ _).alloc (Nat.le_refl _) _, by simp, Half.new _ _ _ _ _ (by simp)⟩
  case round =>
    obtain ⟨k, hk, rfl, hb, hs, hr⟩ := hrel
    by_cases hlt : k < n
    · obtain ⟨ab, o, rfl, hbB, hc⟩ := (HA.out.below hb).ml (by omega)
      obtain ⟨p0, p1⟩ := hc k hlt
      obtain ⟨c1, c2⟩ := hr k hlt
      simp only [Nat.zero_add] at c1 c2
      rw [if_neg (Nat.lt_irrefl k)] at c1
      have HR := Lib.hid hr
      have HF := Lib.hid (show tM xs k = F k by rw [EF.out])
      clear hc hr
      have hne : w.heap.size ≠ wr.heap.size := by omega
      have c3 : (wr.alloc (.cells #[.int .i64 (tM xs k), .int .i64 (tL xs k)] 69)).cell? ⟨w.heap.size, k, none⟩ = _ := (((Below.refl wr.heap.size wr).alloc (Nat.le_refl _) _).cell (p := ⟨w.heap.size, k, none⟩) hs).trans c1
      have c4 : (wr.alloc (.cells #[.int .i64 (tM xs k), .int .i64 (tL xs k)] 69)).frozen? ⟨w.heap.size, k, none⟩ = _ := (((Below.refl wr.heap.size wr).alloc (Nat.le_refl _) _).frozen (p := ⟨w.heap.size, k, none⟩) hs).trans c2
      generalize tM xs k = m at *
      generalize tL xs k = l at *
      go_wp2
      go_roundw
      case rel => exact ⟨k + 1, by omega, by go_num, (by repeat (first | assumption | exact Below.refl _ _ | (refine Below.setCell ?_ (by first | omega | (simp; done) | (simp; omega)) _) | apply below_drewN | apply Below.drew | (refine Below.alloc ?_ (by first | omega | (simp; done) | (simp; omega)) _))), by simp [World.setCell]; omega, half_alloc (by have := HR.out.step m HF.out; simp only [Nat.zero_add] at this; exact this) (by simpa [World.setCell] using hs) _⟩
      case measure => simp [intOf]; omega
    · obtain rfl : k = n := by omega
      have HR := Lib.hid hr
      clear hr
      go_wp2
      go_ret
      exact ⟨_, _, rfl, hb, HR.out.done HL.out (fun j hj => by rw [minsOf_get, EF.out]; rfl) (Nat.le_refl _) hs⟩

set_option maxHeartbeats 3200000 in
theorem validTides_any (A : Option Addr) (n c : Nat) (xs : List RTide) (w : World) (hn : n ≤ 1048576) (hcap : n ≤ c) (ha : Rd_Tide w w.heap.size A n xs) (b : Bool) (hb : b = true ↔ TdOk n xs) :
    Calls Tryd.prog 74 #[.slice A n c] w fun e w' => e = .returned (.bool b) ∧ Below w.heap.size w w' := by
  have hln := ha.len
  have HA := Lib.hid ha
  have HB := Lib.hid hb
  clear ha hb
  by_cases h1 : 2 ≤ (n : Int) ∧ (n : Int) ≤ 40
  · by_cases h2 : Ris 0 100000 (minsOf xs)
    · have HV := Lib.hid (show true = decide (∀ j, j < (minsOf xs).length → stepOk 0 100000 (minsOf xs) j) from (decide_eq_true h2).symm)
      have H2 := Lib.hid h2
      clear h2
      go_enter Tryd.func74, Tryd.ntmps74
      go_wp2_with (first | (go_at_call 66; first | (refine (within_t _ _ _ _ (by omega)).mono ?_; rintro e w' ⟨rfl, rfl⟩) | (refine (within_f _ _ _ _ (by omega)).mono ?_; rintro e w' ⟨rfl, rfl⟩)) | (go_at_call 90; refine (minutes_t _ _ _ xs _ hn HA.out).mono ?_; rintro e1 W1 ⟨B1, d1, rfl, b1, hw1⟩; have HW1 := Lib.hid hw1.rd; clear hw1) | (go_at_call 84; refine (areInc_t _ _ _ (minsOf xs) _ _ _ hn HW1.out true HV.out).mono ?_; rintro e2 W2 ⟨rfl, b2⟩; have d2 : Below w.heap.size w W2 := b1.trans (b2.mono b1.size); clear b2))
      go_loopw [4, 5, 19] (fun _ _ i wr => ∃ k : Nat, k ≤ n ∧ i = .int .i64 (k : Int) ∧ Below w.heap.size w wr ∧ Hid (∀ j, j < k → lvok (tL xs j) ∧ (hiAt n xs j ∨ loAt n xs j))) (fun _ _ i _ => n - (intOf i).toNat)
      case atStart => exact ⟨0, by omega, rfl, d2, fun j hj => absurd hj (by omega)⟩
      case round =>
        obtain ⟨k, hk, rfl, hb, hr⟩ := hrel
        have hsz := hb.size
        by_cases hlt : k < n
        · obtain ⟨ab, o, rfl, hbB, hc⟩ := (HA.out.below hb).ml (by omega)
          obtain ⟨p0, p1⟩ := hc k hlt
          have BAD := Lib.hid (fun h => td_no3 HB.out hlt (k := k) h)
          have NXT := Lib.hid (show lvok (tL xs k) ∧ (hiAt n xs k ∨ loAt n xs k) → ∀ j, j < k + 1 → lvok (tL xs j) ∧ (hiAt n xs j ∨ loAt n xs j) from fun h j hj => by
            by_cases e : j = k
            · subst e; exact h
            · exact hr.out j (by omega))
          by_cases hl : -2000 ≤ tL xs k ∧ tL xs k ≤ 2000
          · by_cases hh : hiAt n xs k
            · have HN := Lib.hid (NXT.out ⟨hl, .inl hh⟩)
              have HT := Lib.hid (show true = decide (hiAt n xs k) from (decide_eq_true hh).symm)
              clear hh hc
              generalize tM xs k = m at *
              generalize tL xs k = l at *
              go_wp2_with (first | (go_at_call 91; refine (lvI_t _ _ hl).mono ?_; rintro e3 W3 ⟨rfl, rfl⟩) | (go_at_call 92; refine (isHigh_t _ _ _ k xs _ hn hcap ((HA.out.below (by repeat (first | assumption | exact Below.refl _ _ | (refine Below.trans ?_ (hb.mono (by first | omega | (simp; done) | (simp; omega)))) | (refine Below.setCell ?_ (by first | omega | (simp; done) | (simp; omega)) _) | apply below_drewN | apply Below.drew | (refine Below.alloc ?_ (by first | omega | (simp; done) | (simp; omega)) _)))).mono (by first | omega | (simp; done) | (simp; omega))) hlt true HT.out).mono ?_; rintro e4 W4 ⟨rfl, b4⟩))
              go_roundw
              case rel => exact ⟨k + 1, by omega, by go_num, (by repeat (first | assumption | exact Below.refl _ _ | (refine Below.trans ?_ (b4.mono (by first | omega | (simp; done) | (simp; omega)))) | (refine Below.trans ?_ (hb.mono (by first | omega | (simp; done) | (simp; omega)))) | (refine Below.setCell ?_ (by first | omega | (simp; done) | (simp; omega)) _) | apply below_drewN | apply Below.drew | (refine Below.alloc ?_ (by first | omega | (simp; done) | (simp; omega)) _))), HN.out⟩
              case measure => simp [intOf]; omega
            · have HF := Lib.hid (show false = decide (hiAt n xs k) from (decide_eq_false hh).symm)
              by_cases hq : loAt n xs k
              · have HN := Lib.hid (NXT.out ⟨hl, .inr hq⟩)
                have HT := Lib.hid (show true = decide (loAt n xs k) from (decide_eq_true hq).symm)
                clear hh hc hq
                generalize tM xs k = m at *
                generalize tL xs k = l at *
                go_wp2_with (first | (go_at_call 91; refine (lvI_t _ _ hl).mono ?_; rintro e3 W3 ⟨rfl, rfl⟩) | (go_at_call 92; refine (isHigh_t _ _ _ k xs _ hn hcap ((HA.out.below (by repeat (first | assumption | exact Below.refl _ _ | (refine Below.trans ?_ (hb.mono (by first | omega | (simp; done) | (simp; omega)))) | (refine Below.setCell ?_ (by first | omega | (simp; done) | (simp; omega)) _) | apply below_drewN | apply Below.drew | (refine Below.alloc ?_ (by first | omega | (simp; done) | (simp; omega)) _)))).mono (by first | omega | (simp; done) | (simp; omega))) hlt false HF.out).mono ?_; rintro e4 W4 ⟨rfl, b4⟩; have s4 : wr.heap.size < W4.heap.size := (by have := b4.size; (try simp at this); omega)) | (go_at_call 93; refine (isLow_t _ _ _ k xs _ hn hcap ((HA.out.below (by repeat (first | assumption | exact Below.refl _ _ | (refine Below.trans ?_ (b4.mono (by first | omega | (simp; done) | (simp; omega)))) | (refine Below.trans ?_ (hb.mono (by first | omega | (simp; done) | (simp; omega)))) | (refine Below.setCell ?_ (by first | omega | (simp; done) | (simp; omega)) _) | apply below_drewN | apply Below.drew | (refine Below.alloc ?_ (by first | omega | (simp; done) | (simp; omega)) _)))).mono (by first | omega | (simp; done) | (simp; omega))) hlt true HT.out).mono ?_; rintro e5 W5 ⟨rfl, b5⟩))
                go_roundw
                case rel => exact ⟨k + 1, by omega, by go_num, (by repeat (first | assumption | exact Below.refl _ _ | (refine Below.trans ?_ (b5.mono (by first | omega | (simp; done) | (simp; omega)))) | (refine Below.trans ?_ (b4.mono (by first | omega | (simp; done) | (simp; omega)))) | (refine Below.trans ?_ (hb.mono (by first | omega | (simp; done) | (simp; omega)))) | (refine Below.setCell ?_ (by first | omega | (simp; done) | (simp; omega)) _) | apply below_drewN | apply Below.drew | (refine Below.alloc ?_ (by first | omega | (simp; done) | (simp; omega)) _))), HN.out⟩
                case measure => simp [intOf]; omega
              · obtain rfl := BAD.out (fun h => by rcases h.2 with c | c; exact hh c; exact hq c)
                have HT := Lib.hid (show false = decide (loAt n xs k) from (decide_eq_false hq).symm)
                clear hh hc hq NXT BAD
                generalize tM xs k = m at *
                generalize tL xs k = l at *
                go_wp2_with (first | (go_at_call 91; refine (lvI_t _ _ hl).mono ?_; rintro e3 W3 ⟨rfl, rfl⟩) | (go_at_call 92; refine (isHigh_t _ _ _ k xs _ hn hcap ((HA.out.below (by repeat (first | assumption | exact Below.refl _ _ | (refine Below.trans ?_ (hb.mono (by first | omega | (simp; done) | (simp; omega)))) | (refine Below.setCell ?_ (by first | omega | (simp; done) | (simp; omega)) _) | apply below_drewN | apply Below.drew | (refine Below.alloc ?_ (by first | omega | (simp; done) | (simp; omega)) _)))).mono (by first | omega | (simp; done) | (simp; omega))) hlt false HF.out).mono ?_; rintro e4 W4 ⟨rfl, b4⟩; have s4 : wr.heap.size < W4.heap.size := (by have := b4.size; (try simp at this); omega)) | (go_at_call 93; refine (isLow_t _ _ _ k xs _ hn hcap ((HA.out.below (by repeat (first | assumption | exact Below.refl _ _ | (refine Below.trans ?_ (b4.mono (by first | omega | (simp; done) | (simp; omega)))) | (refine Below.trans ?_ (hb.mono (by first | omega | (simp; done) | (simp; omega)))) | (refine Below.setCell ?_ (by first | omega | (simp; done) | (simp; omega)) _) | apply below_drewN | apply Below.drew | (refine Below.alloc ?_ (by first | omega | (simp; done) | (simp; omega)) _)))).mono (by first | omega | (simp; done) | (simp; omega))) hlt false HT.out).mono ?_; rintro e5 W5 ⟨rfl, b5⟩))
                go_ret
                exact ⟨rfl, (by repeat (first | assumption | exact Below.refl _ _ | (refine Below.trans ?_ (b5.mono (by first | omega | (simp; done) | (simp; omega)))) | (refine Below.trans ?_ (b4.mono (by first | omega | (simp; done) | (simp; omega)))) | (refine Below.trans ?_ (hb.mono (by first | omega | (simp; done) | (simp; omega)))) | (refine Below.setCell ?_ (by first | omega | (simp; done) | (simp; omega)) _) | apply below_drewN | apply Below.drew | (refine Below.alloc ?_ (by first | omega | (simp; done) | (simp; omega)) _)))⟩
          · obtain rfl := BAD.out (fun h => hl h.1)
            clear hc NXT BAD
            generalize tM xs k = m at *
            generalize tL xs k = l at *
            go_wp2_with (first | (go_at_call 91; refine (lvI_f _ _ hl).mono ?_; rintro e3 W3 ⟨rfl, rfl⟩))
            go_ret
            exact ⟨rfl, (by repeat (first | assumption | exact Below.refl _ _ | (refine Below.trans ?_ (hb.mono (by first | omega | (simp; done) | (simp; omega)))) | (refine Below.setCell ?_ (by first | omega | (simp; done) | (simp; omega)) _) | apply below_drewN | apply Below.drew | (refine Below.alloc ?_ (by first | omega | (simp; done) | (simp; omega)) _)))⟩
        · obtain rfl : k = n := by omega
          have HT := Lib.hid (show b = true from HB.out.2 (td_of (by omega) (by omega) (ris_td H2.out hln) hr.out))
          go_wp2
          go_ret
          exact ⟨ret_bool HT.out.symm, hb⟩
    · have HV := Lib.hid (show false = decide (∀ j, j < (minsOf xs).length → stepOk 0 100000 (minsOf xs) j) from (decide_eq_false h2).symm)
      obtain rfl := td_no2 HB.out hln h2
      clear h2 HB
      go_enter Tryd.func74, Tryd.ntmps74
      go_wp2_with (first | (go_at_call 66; first | (refine (within_t _ _ _ _ (by omega)).mono ?_; rintro e w' ⟨rfl, rfl⟩) | (refine (within_f _ _ _ _ (by omega)).mono ?_; rintro e w' ⟨rfl, rfl⟩)) | (go_at_call 90; refine (minutes_t _ _ _ xs _ hn HA.out).mono ?_; rintro e1 W1 ⟨B1, d1, rfl, b1, hw1⟩; have HW1 := Lib.hid hw1.rd; clear hw1) | (go_at_call 84; refine (areInc_t _ _ _ (minsOf xs) _ _ _ hn HW1.out false HV.out).mono ?_; rintro e2 W2 ⟨rfl, b2⟩; have d2 : Below w.heap.size w W2 := b1.trans (b2.mono b1.size); clear b2))
      go_ret
      exact ⟨rfl, d2⟩
  · obtain rfl := td_no1 HB.out h1
    clear HB
    go_enter Tryd.func74, Tryd.ntmps74
    go_wp2_with (first | (go_at_call 66; first | (refine (within_t _ _ _ _ (by omega)).mono ?_; rintro e w' ⟨rfl, rfl⟩) | (refine (within_f _ _ _ _ (by omega)).mono ?_; rintro e w' ⟨rfl, rfl⟩)))
    go_ret
    exact ⟨rfl, Below.refl _ _⟩

/-- whether a minute is one of a table, which need not be valid -/
def hasM (n : Nat) (xs : List RTide) (m : Int) : Bool := decide (0 < n) && decide (inT n xs m)
theorem hasM_ok {n : Nat} {xs : List RTide} {m : Int} (h : TdOk n xs) : hasM n xs m = decide (inT n xs m) := by
  have := h.2.1
  unfold hasM
  rw [decide_eq_true (by omega), Bool.true_and]
end Go.Proofs.YticbnahndidplaaDoor
