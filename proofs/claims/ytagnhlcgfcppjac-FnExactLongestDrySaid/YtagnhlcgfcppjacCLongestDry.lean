/- The longest dry spell. -/
import Derived.Test.YtagnhlcgfcppjacZsL
import Derived.Test.YtagnhlcgfcppjacRainM
import Derived.Test.YtagnhlcgfcppjacDryS
namespace Go.Proofs.Ytagnhlcgfcppjac
open Go.RowKit Go.Shelf

def lgD (n : Nat) (xs : List Int) : Int := lgN (spN xs n n) (spN xs n n).length
def r0_LongestDry (xa0 : List Int) : Int := if RainOk xa0.length xa0 then lgD xa0.length xa0 else 0
def r1_LongestDry (xa0 : List Int) : Int := rcode xa0.length xa0 True

set_option maxHeartbeats 800000 in
theorem longest_impl (b o n c : Nat) (xs : List Int) (w : World) (hn : n ≤ 1048576) (hok : RainOk n xs) (ra : Rd w w.heap.size (some ⟨b, o, none⟩) n xs) :
    Calls Try.prog 46 #[.slice (some ⟨b, o, none⟩) n c] w fun e w' => e = .returned (.tuple #[.int .i64 (lgD n xs), .int .i64 0]) ∧ Below w.heap.size w w' := by
  have HR := Lib.hid (show rcode n xs True = 0 from rcode_ok hok trivial)
  have RA := Lib.hid ra
  have h1 := hok.2.1
  have h120 := hok.2.2
  have HN := Lib.hid (show ∀ j, j < n → 0 ≤ xs.getD j 0 from fun j hj => (hok.1 j hj).1)
  obtain ⟨_, _, e, hbB, _⟩ := ra.2 (by omega)
  injection e with e
  injection e with e1 e2
  subst e1
  subst e2
  obtain ⟨m, hm⟩ : ∃ m, m = lgD n xs := ⟨_, rfl⟩
  rw [← hm]
  have HM := Lib.hid (show lgN (spN xs n n) (spN xs n n).length = m from hm.symm)
  clear hok ra hm
  go_enter Try.func46, Try.ntmps46
  go_wp2_with (first | (go_at_call 65; refine (rainCode_t _ _ _ xs _ True true hn RA.out (by simp)).mono ?_; rintro e1 W1 ⟨rfl, hw1⟩; have d1 : Below w.heap.size w W1 := (by rw [hw1]; exact (by repeat (first | assumption | exact Below.refl _ _ | (refine Below.setCell ?_ (by first | omega | (simp; done) | (simp; omega)) _) | apply below_drewN | apply Below.drew | (refine Below.alloc ?_ (by first | omega | (simp; done) | (simp; omega)) _)))); clear hw1; have s1 := d1.size; have RB := Lib.hid ((RA.out.below d1).mono d1.size); rw [HR.out]) | (go_at_call 77; refine (longestZ_r b o n c xs _ (by omega) HN.out (by omega) RB.out m HM.out).mono ?_; rintro e2 W2 ⟨rfl, b2⟩))
  go_ret2
  exact ⟨rfl, d1.trans (b2.mono d1.size)⟩

set_option maxHeartbeats 800000 in
theorem implC_LongestDry (a0 : Option Addr) (la0 ca0 : Nat) (xa0 : List Int) (w : World) (ha0 : la0 ≤ 1048576) (ra0 : Rd w w.heap.size a0 la0 xa0) (fa0 : Wf xa0) :
    Calls Try.prog 46 #[.slice a0 la0 ca0] w fun e w' => e = .returned (.tuple #[.int .i64 (r0_LongestDry xa0), .int .i64 (r1_LongestDry xa0)]) ∧ Below w.heap.size w w' := by
  have hln := ra0.1
  by_cases h : RainOk la0 xa0
  · have e0 : r0_LongestDry xa0 = lgD la0 xa0 := by unfold r0_LongestDry; rw [hln, if_pos h]
    have e1 : r1_LongestDry xa0 = 0 := by unfold r1_LongestDry; rw [hln]; exact rcode_ok h trivial
    rw [e0, e1]
    obtain ⟨b, o, rfl, _⟩ := ra0.2 (by have := h.2.1; omega)
    exact longest_impl b o la0 ca0 xa0 w ha0 h ra0
  · have e0 : r0_LongestDry xa0 = 0 := by unfold r0_LongestDry; rw [hln, if_neg h]
    have e1 : r1_LongestDry xa0 = 1 := by unfold r1_LongestDry; rw [hln]; exact rcode_bad h
    rw [e0, e1]
    have HR := Lib.hid (show rcode la0 xa0 True = 1 from rcode_bad h)
    have RA := Lib.hid ra0
    clear h e0 e1 ra0
    go_enter Try.func46, Try.ntmps46
    go_wp2_with (first | (go_at_call 65; refine (rainCode_t _ _ _ xa0 _ True true ha0 RA.out (by simp)).mono ?_; rintro e1 W1 ⟨rfl, hw1⟩; have d1 : Below w.heap.size w W1 := (by rw [hw1]; exact (by repeat (first | assumption | exact Below.refl _ _ | (refine Below.setCell ?_ (by first | omega | (simp; done) | (simp; omega)) _) | apply below_drewN | apply Below.drew | (refine Below.alloc ?_ (by first | omega | (simp; done) | (simp; omega)) _)))); clear hw1; rw [HR.out]))
    go_ret2
    exact ⟨rfl, d1⟩

set_option maxHeartbeats 1600000 in
theorem specC_LongestDry (a0 : Option Addr) (la0 ca0 : Nat) (xa0 : List Int) (w : World) (ha0 : la0 ≤ 1048576) (ra0 : Rd w w.heap.size a0 la0 xa0) (fa0 : Wf xa0) :
    Calls Try.prog 45 #[.slice a0 la0 ca0] w fun e w' => e = .returned (.tuple #[.int .i64 (r0_LongestDry xa0), .int .i64 (r1_LongestDry xa0)]) ∧ Below w.heap.size w w' := by
  have hln := ra0.1
  have RA := Lib.hid ra0
  by_cases h : RainOk la0 xa0
  · have e0 : r0_LongestDry xa0 = lgN (spN xa0 la0 la0) (spN xa0 la0 la0).length := by unfold r0_LongestDry lgD; rw [hln, if_pos h]
    have e1 : r1_LongestDry xa0 = 0 := by unfold r1_LongestDry; rw [hln]; exact rcode_ok h trivial
    rw [e0, e1]
    have h1 := h.2.1
    have h120 := h.2.2
    have HV := Lib.hid h
    obtain ⟨b, o, rfl, _⟩ := ra0.2 (by omega)
    have hlen := spN_len xa0 la0 la0
    have HD := Lib.hid (l06Dry_t b o la0 ca0 xa0 w h ra0)
    generalize spN xa0 la0 la0 = L at *
    clear h e0 e1 ra0
    go_enter Try.func45, Try.ntmps45
    go_wp2_with (first | (go_at_call 61; refine (l06Ok_any _ _ _ xa0 _ ha0 RA.out true ⟨fun _ => HV.out, fun _ => rfl⟩).mono ?_; rintro e1 w1 ⟨rfl, rfl⟩) | (go_at_call 75; refine HD.out.mono ?_; rintro e2 w2 ⟨A, d, gs, rfl, b2, own2, prs2⟩; have D2 := Lib.hid b2; have OW := Lib.hid own2; have PR := Lib.hid prs2; clear b2 own2 prs2))
    have RV := Lib.hid (own_vals OW.out)
    go_loop [5, 6] (fun m i => ∃ k : Nat, k ≤ L.length ∧ i = .int .i64 (k : Int) ∧ m = .int .i64 (lgN L k)) (fun _ i => L.length - (intOf i).toNat)
    case atStart => exact ⟨0, by omega, rfl, rfl⟩
    case round =>
      obtain ⟨k, hk, rfl, rfl⟩ := hrel
      by_cases hlt : k < L.length
      · obtain ⟨g, rfl, hg⟩ := RV.out (by omega)
        have c1 := hg k hlt
        have hgl := PR.out.len
        rw [List.getElem?_map, List.getElem?_eq_getElem (show k < gs.length by omega)] at c1
        have hgk : gs[k] = gs.getD k 0 := by rw [List.getD_eq_getElem?_getD, List.getElem?_eq_getElem (show k < gs.length by omega)]; rfl
        rw [Option.map_some, hgk] at c1
        obtain ⟨_, c2, _⟩ := PR.out.cell hlt
        have HS := Lib.hid (show lgN L (k + 1) = max (lgN L k) ((L.getD k (0, 0)).2 : Int) from rfl)
        unfold sl2 at c1
        generalize gs.getD k 0 = gk at c1 c2
        obtain ⟨q, hq⟩ : ∃ q : Int, q = ((L.getD k (0, 0)).2 : Int) := ⟨_, rfl⟩
        rw [← hq] at c2 HS
        generalize lgN L k = m at *
        clear hq hgk hgl hg
        go_wp2_with (go_at_call 70; refine (max_t _ _ _).mono ?_; rintro e w' ⟨rfl, rfl⟩)
        go_round
        case rel => exact ⟨k + 1, by omega, by go_num, by rw [HS.out]⟩
        case measure => simp [intOf]; omega
      · obtain rfl : k = L.length := by omega
        go_wp2
        go_ret2
        exact ⟨rfl, D2.out⟩
  · have e0 : r0_LongestDry xa0 = 0 := by unfold r0_LongestDry; rw [hln, if_neg h]
    have e1 : r1_LongestDry xa0 = 1 := by unfold r1_LongestDry; rw [hln]; exact rcode_bad h
    rw [e0, e1]
    have HV := Lib.hid h
    clear h e0 e1 ra0
    go_enter Try.func45, Try.ntmps45
    go_wp2_with (first | (go_at_call 61; refine (l06Ok_any _ _ _ xa0 _ ha0 RA.out false ⟨fun h => by simp at h, fun h => absurd h HV.out⟩).mono ?_; rintro e1 w1 ⟨rfl, rfl⟩))
    go_ret2
    exact ⟨rfl, Below.refl _ _⟩

end Go.Proofs.Ytagnhlcgfcppjac
