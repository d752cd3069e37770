/- The walk of the law on storage. -/
import Derived.Test.YthjcpgabdlfojaaDoorStoP
import Derived.Test.YthjcpgabdlfojaaDoorDraws
import Derived.Test.YthjcpgabdlfojaaDoorSent
import Derived.Laws.StructEq
namespace Go.Proofs.YthjcpgabdlfojaaDoor
open Go.RowKit

theorem IsRow.by {w : World} {a : Option Addr} {len cap : Nat} {zs : List Int} (h : IsRow .u8 w a len cap zs) : ByR w a len := by
  rcases h with ⟨rfl, rfl, rfl, rfl⟩ | ⟨x, rfl, hl, hm, hz, hc, hw⟩
  · exact fun h => absurd h (by omega)
  · intro hn
    have c0 := hc 0 (by omega)
    obtain ⟨b, off, spot⟩ := x
    have hspot : spot = none := by simpa [Addr.add] using World.cell?_spot c0
    subst hspot
    have hb := World.block_lt_of_cell? _ _ c0
    refine ⟨b, off, rfl, by simpa [Addr.add] using hb, fun j hj => ?_⟩
    have cj := hc j (by omega)
    rw [addr_add] at cj
    have hz2 : zs.getD j 0 ∈ zs := by
      rw [List.getD_eq_getElem?_getD, List.getElem?_eq_getElem (show j < zs.length by omega)]
      exact List.getElem_mem _
    generalize zs.getD j 0 = x at cj hz2
    have hx := hw x hz2
    simp [Lit.wf, IntKind.min, IntKind.max, IntKind.signed, IntKind.bits] at hx
    exact ⟨x, cj, by omega, by omega⟩

set_option maxHeartbeats 400000 in
theorem big_f (A : Option Addr) (n c : Nat) (w : World) (h : n ≤ 4096) : Calls Tryd.prog 13 #[.slice A n c] w fun e w' => e = .returned (.bool false) ∧ w = w' := by
  have h1 : (n : Int) ≤ 4096 := by omega
  go_enter Tryd.func13, Tryd.ntmps13
  go_wp2
  go_ret
  exact ⟨ret_bool (by first | (simp; done) | (simp; omega)), rfl⟩
set_option maxHeartbeats 400000 in
theorem big_t (A : Option Addr) (n c : Nat) (w : World) (h : ¬ n ≤ 4096) : Calls Tryd.prog 13 #[.slice A n c] w fun e w' => e = .returned (.bool true) ∧ w = w' := by
  have h1 : (4096 : Int) < (n : Int) := by omega
  go_enter Tryd.func13, Tryd.ntmps13
  go_wp2
  go_ret
  exact ⟨ret_bool (by first | (simp; done) | (simp; omega)), rfl⟩

set_option maxRecDepth 100000 in
set_option maxHeartbeats 12800000 in
theorem law_FnStorage (A : Option Addr) (n c : Nat) (w : World) (h : ByR w A n) (hn : n ≤ 4096) (se0 se1 : Addr) (hsent : Sent w w.heap.size se0 se1) :
    Calls Tryd.prog 4 #[.slice A n c] w fun e w' => e = .returned (.bool true) ∧ Below w.heap.size w w' := by
  have HS := Lib.hid hsent
  have HY := Lib.hid h
  clear h hsent
  go_enter Tryd.func4, Tryd.ntmps4
  go_wp2_with (go_at_call 13; refine (big_f _ _ _ _ hn).mono ?_; rintro e w' ⟨rfl, rfl⟩)
  go_wp2_with fail
  refine (drawLevelAt_t A n c _ HY.out (by omega)).mono ?_
  rintro e1 W1 ⟨cA, cm, cc, cB, cp, cd, cl, cv, v, rfl, hcm, hcp, fcl, fcv, wv, b1, rcA, rcB⟩
  have Hfcl := Lib.hid fcl
  have Hfcv := Lib.hid fcv
  have HrcA := Lib.hid rcA
  have HrcB := Lib.hid rcB
  clear fcl fcv rcA rcB
  obtain ⟨k1, _⟩ := bcell b1
  have s1 : w.heap.size + 0 ≤ W1.heap.size := by have := b1.size; (try simp at this); omega
  have d1 : Below w.heap.size w W1 := (by repeat (first | assumption | exact Below.refl _ _ | (refine Below.trans ?_ (b1.mono (by first | omega | (simp; done) | (simp; omega)))) | (refine Below.setCell ?_ (by first | omega | (simp; done) | (simp; omega)) _) | apply below_drewN | apply Below.drew | (refine Below.alloc ?_ (by first | omega | (simp; done) | (simp; omega)) _)))
  have D1 : Below w.heap.size w W1 := (d1.mono (by omega))
  clear k1
  go_wp2_with fail
  refine (implC_LevelAt _ _ _ cl _ _ _ cv v _ (by omega) (Rd.mono (HrcA.out.below (by repeat (first | assumption | exact Below.refl _ _ | (refine Below.setCell ?_ (by first | omega | (simp; done) | (simp; omega)) _) | apply below_drewN | apply Below.drew | (refine Below.alloc ?_ (by first | omega | (simp; done) | (simp; omega)) _)))) (by first | omega | (simp; done) | (simp; omega))) Hfcl.out (by omega) (Rd.mono (HrcB.out.below (by repeat (first | assumption | exact Below.refl _ _ | (refine Below.setCell ?_ (by first | omega | (simp; done) | (simp; omega)) _) | apply below_drewN | apply Below.drew | (refine Below.alloc ?_ (by first | omega | (simp; done) | (simp; omega)) _)))) (by first | omega | (simp; done) | (simp; omega))) Hfcv.out wv _ _ ((HS.out.below (by repeat (first | assumption | exact Below.refl _ _ | (refine Below.trans ?_ (D1.mono (by first | omega | (simp; done) | (simp; omega)))) | (refine Below.setCell ?_ (by first | omega | (simp; done) | (simp; omega)) _) | apply below_drewN | apply Below.drew | (refine Below.alloc ?_ (by first | omega | (simp; done) | (simp; omega)) _)))).mono (by first | omega | (simp; done) | (simp; omega)))).mono ?_
  rintro e2 W2 ⟨rfl, b2⟩
  obtain ⟨lv, e_lv⟩ : ∃ zz_, zz_ = r0_LevelAt cl cv v := ⟨_, rfl⟩
  rw [← e_lv]
  have E_lv := Lib.hid e_lv
  clear e_lv
  obtain ⟨bad, e_bad⟩ : ∃ zz_, zz_ = r1_LevelAt cl cv v := ⟨_, rfl⟩
  rw [← e_bad]
  have E_bad := Lib.hid e_bad
  clear e_bad
  obtain ⟨k2, _⟩ := bcell b2
  have s2 : W1.heap.size + 1 ≤ W2.heap.size := by have := b2.size; (try simp at this); omega
  have d2 : Below W1.heap.size W1 W2 := (by repeat (first | assumption | exact Below.refl _ _ | (refine Below.trans ?_ (b2.mono (by first | omega | (simp; done) | (simp; omega)))) | (refine Below.setCell ?_ (by first | omega | (simp; done) | (simp; omega)) _) | apply below_drewN | apply Below.drew | (refine Below.alloc ?_ (by first | omega | (simp; done) | (simp; omega)) _)))
  have D2 : Below w.heap.size w W2 := Below.trans D1 (d2.mono (by omega))
  have y2_c_0 : W2.cell? ⟨W1.heap.size, 0, none⟩ = some (.slice cA cm cc) := by rw [k2 _ _ (by first | omega | (simp; done) | (simp; omega))]; first | (simp; done) | go_simp
  have y2_c_1 : W2.cell? ⟨W1.heap.size, 1, none⟩ = some (.slice cB cp cd) := by rw [k2 _ _ (by first | omega | (simp; done) | (simp; omega))]; first | (simp; done) | go_simp
  have n2_c : W1.heap.size < W2.heap.size := by omega
  have q2_cA := Lib.hid (HrcA.out.below (d2.mono (show W1.heap.size ≤ W1.heap.size by omega)))
  have q2_cB := Lib.hid (HrcB.out.below (d2.mono (show W1.heap.size ≤ W1.heap.size by omega)))
  clear k2 HrcA HrcB
  go_wp2_with fail
  refine (specC_LevelAt _ _ _ cl _ _ _ cv v _ (by omega) (Rd.mono (q2_cA.out.below (by repeat (first | assumption | exact Below.refl _ _ | (refine Below.setCell ?_ (by first | omega | (simp; done) | (simp; omega)) _) | apply below_drewN | apply Below.drew | (refine Below.alloc ?_ (by first | omega | (simp; done) | (simp; omega)) _)))) (by first | omega | (simp; done) | (simp; omega))) Hfcl.out (by omega) (Rd.mono (q2_cB.out.below (by repeat (first | assumption | exact Below.refl _ _ | (refine Below.setCell ?_ (by first | omega | (simp; done) | (simp; omega)) _) | apply below_drewN | apply Below.drew | (refine Below.alloc ?_ (by first | omega | (simp; done) | (simp; omega)) _)))) (by first | omega | (simp; done) | (simp; omega))) Hfcv.out wv).mono ?_
  rintro e3 W3 ⟨rfl, b3⟩
  rw [← E_lv.out, ← E_bad.out]
  obtain ⟨k3, _⟩ := bcell b3
  have s3 : W2.heap.size + 0 ≤ W3.heap.size := by have := b3.size; (try simp at this); omega
  have d3 : Below W2.heap.size W2 W3 := (by repeat (first | assumption | exact Below.refl _ _ | (refine Below.trans ?_ (b3.mono (by first | omega | (simp; done) | (simp; omega)))) | (refine Below.setCell ?_ (by first | omega | (simp; done) | (simp; omega)) _) | apply below_drewN | apply Below.drew | (refine Below.alloc ?_ (by first | omega | (simp; done) | (simp; omega)) _)))
  have D3 : Below w.heap.size w W3 := Below.trans D2 (d3.mono (by omega))
  have y3_c_0 : W3.cell? ⟨W1.heap.size, 0, none⟩ = some (.slice cA cm cc) := (d3.cell (p := ⟨W1.heap.size, 0, none⟩) (show W1.heap.size < W2.heap.size by omega)).trans y2_c_0
  have y3_c_1 : W3.cell? ⟨W1.heap.size, 1, none⟩ = some (.slice cB cp cd) := (d3.cell (p := ⟨W1.heap.size, 1, none⟩) (show W1.heap.size < W2.heap.size by omega)).trans y2_c_1
  have n3_c : W1.heap.size < W3.heap.size := by omega
  have q3_cA := Lib.hid (q2_cA.out.below (d3.mono (show W1.heap.size ≤ W2.heap.size by omega)))
  have q3_cB := Lib.hid (q2_cB.out.below (d3.mono (show W1.heap.size ≤ W2.heap.size by omega)))
  clear k3 y2_c_0 y2_c_1 n2_c q2_cA q2_cB
  go_wp2_with fail
  refine (drawAddWater_t A n c _ (HY.out.below (by repeat (first | assumption | exact Below.refl _ _ | (refine Below.trans ?_ (D3.mono (by first | omega | (simp; done) | (simp; omega)))) | (refine Below.setCell ?_ (by first | omega | (simp; done) | (simp; omega)) _) | apply below_drewN | apply Below.drew | (refine Below.alloc ?_ (by first | omega | (simp; done) | (simp; omega)) _)))) (by omega)).mono ?_
  rintro e4 W4 ⟨aA, am, ac, aB, ap, ad, al, av, fr, mo, rfl, ham, hap, fal, fav, wfr, wmo, b4, raA, raB⟩
  have Hfal := Lib.hid fal
  have Hfav := Lib.hid fav
  have HraA := Lib.hid raA
  have HraB := Lib.hid raB
  clear fal fav raA raB
  obtain ⟨k4, _⟩ := bcell b4
  have s4 : W3.heap.size + 0 ≤ W4.heap.size := by have := b4.size; (try simp at this); omega
  have d4 : Below W3.heap.size W3 W4 := (by repeat (first | assumption | exact Below.refl _ _ | (refine Below.trans ?_ (b4.mono (by first | omega | (simp; done) | (simp; omega)))) | (refine Below.setCell ?_ (by first | omega | (simp; done) | (simp; omega)) _) | apply below_drewN | apply Below.drew | (refine Below.alloc ?_ (by first | omega | (simp; done) | (simp; omega)) _)))
  have D4 : Below w.heap.size w W4 := Below.trans D3 (d4.mono (by omega))
  have y4_c_0 : W4.cell? ⟨W1.heap.size, 0, none⟩ = some (.slice cA cm cc) := (d4.cell (p := ⟨W1.heap.size, 0, none⟩) (show W1.heap.size < W3.heap.size by omega)).trans y3_c_0
  have y4_c_1 : W4.cell? ⟨W1.heap.size, 1, none⟩ = some (.slice cB cp cd) := (d4.cell (p := ⟨W1.heap.size, 1, none⟩) (show W1.heap.size < W3.heap.size by omega)).trans y3_c_1
  have n4_c : W1.heap.size < W4.heap.size := by omega
  have q4_cA := Lib.hid (q3_cA.out.below (d4.mono (show W1.heap.size ≤ W3.heap.size by omega)))
  have q4_cB := Lib.hid (q3_cB.out.below (d4.mono (show W1.heap.size ≤ W3.heap.size by omega)))
  clear k4 y3_c_0 y3_c_1 n3_c q3_cA q3_cB
  go_wp2_with fail
  refine (implC_AddWater _ _ _ al _ _ _ av fr mo _ (by omega) (Rd.mono (HraA.out.below (by repeat (first | assumption | exact Below.refl _ _ | (refine Below.setCell ?_ (by first | omega | (simp; done) | (simp; omega)) _) | apply below_drewN | apply Below.drew | (refine Below.alloc ?_ (by first | omega | (simp; done) | (simp; omega)) _)))) (by first | omega | (simp; done) | (simp; omega))) Hfal.out (by omega) (Rd.mono (HraB.out.below (by repeat (first | assumption | exact Below.refl _ _ | (refine Below.setCell ?_ (by first | omega | (simp; done) | (simp; omega)) _) | apply below_drewN | apply Below.drew | (refine Below.alloc ?_ (by first | omega | (simp; done) | (simp; omega)) _)))) (by first | omega | (simp; done) | (simp; omega))) Hfav.out wfr wmo _ _ ((HS.out.below (by repeat (first | assumption | exact Below.refl _ _ | (refine Below.trans ?_ (D4.mono (by first | omega | (simp; done) | (simp; omega)))) | (refine Below.setCell ?_ (by first | omega | (simp; done) | (simp; omega)) _) | apply below_drewN | apply Below.drew | (refine Below.alloc ?_ (by first | omega | (simp; done) | (simp; omega)) _)))).mono (by first | omega | (simp; done) | (simp; omega)))).mono ?_
  rintro e5 W5 ⟨rfl, b5⟩
  obtain ⟨to, e_to⟩ : ∃ zz_, zz_ = r0_AddWater al av fr mo := ⟨_, rfl⟩
  rw [← e_to]
  have E_to := Lib.hid e_to
  clear e_to
  obtain ⟨one, e_one⟩ : ∃ zz_, zz_ = r1_AddWater al av fr mo := ⟨_, rfl⟩
  rw [← e_one]
  have E_one := Lib.hid e_one
  clear e_one
  obtain ⟨k5, _⟩ := bcell b5
  have s5 : W4.heap.size + 1 ≤ W5.heap.size := by have := b5.size; (try simp at this); omega
  have d5 : Below W4.heap.size W4 W5 := (by repeat (first | assumption | exact Below.refl _ _ | (refine Below.trans ?_ (b5.mono (by first | omega | (simp; done) | (simp; omega)))) | (refine Below.setCell ?_ (by first | omega | (simp; done) | (simp; omega)) _) | apply below_drewN | apply Below.drew | (refine Below.alloc ?_ (by first | omega | (simp; done) | (simp; omega)) _)))
  have D5 : Below w.heap.size w W5 := Below.trans D4 (d5.mono (by omega))
  have y5_c_0 : W5.cell? ⟨W1.heap.size, 0, none⟩ = some (.slice cA cm cc) := (d5.cell (p := ⟨W1.heap.size, 0, none⟩) (show W1.heap.size < W4.heap.size by omega)).trans y4_c_0
  have y5_c_1 : W5.cell? ⟨W1.heap.size, 1, none⟩ = some (.slice cB cp cd) := (d5.cell (p := ⟨W1.heap.size, 1, none⟩) (show W1.heap.size < W4.heap.size by omega)).trans y4_c_1
  have n5_c : W1.heap.size < W5.heap.size := by omega
  have y5_a_0 : W5.cell? ⟨W4.heap.size, 0, none⟩ = some (.slice aA am ac) := by rw [k5 _ _ (by first | omega | (simp; done) | (simp; omega))]; first | (simp; done) | go_simp
  have y5_a_1 : W5.cell? ⟨W4.heap.size, 1, none⟩ = some (.slice aB ap ad) := by rw [k5 _ _ (by first | omega | (simp; done) | (simp; omega))]; first | (simp; done) | go_simp
  have n5_a : W4.heap.size < W5.heap.size := by omega
  have q5_cA := Lib.hid (q4_cA.out.below (d5.mono (show W1.heap.size ≤ W4.heap.size by omega)))
  have q5_cB := Lib.hid (q4_cB.out.below (d5.mono (show W1.heap.size ≤ W4.heap.size by omega)))
  have q5_aA := Lib.hid (HraA.out.below (d5.mono (show W4.heap.size ≤ W4.heap.size by omega)))
  have q5_aB := Lib.hid (HraB.out.below (d5.mono (show W4.heap.size ≤ W4.heap.size by omega)))
  clear k5 y4_c_0 y4_c_1 n4_c q4_cA q4_cB HraA HraB
  go_wp2_with fail
  refine (specC_AddWater _ _ _ al _ _ _ av fr mo _ (by omega) (Rd.mono (q5_aA.out.below (by repeat (first | assumption | exact Below.refl _ _ | (refine Below.setCell ?_ (by first | omega | (simp; done) | (simp; omega)) _) | apply below_drewN | apply Below.drew | (refine Below.alloc ?_ (by first | omega | (simp; done) | (simp; omega)) _)))) (by first | omega | (simp; done) | (simp; omega))) Hfal.out (by omega) (Rd.mono (q5_aB.out.below (by repeat (first | assumption | exact Below.refl _ _ | (refine Below.setCell ?_ (by first | omega | (simp; done) | (simp; omega)) _) | apply below_drewN | apply Below.drew | (refine Below.alloc ?_ (by first | omega | (simp; done) | (simp; omega)) _)))) (by first | omega | (simp; done) | (simp; omega))) Hfav.out wfr wmo).mono ?_
  rintro e6 W6 ⟨rfl, b6⟩
  rw [← E_to.out, ← E_one.out]
  obtain ⟨k6, _⟩ := bcell b6
  have s6 : W5.heap.size + 0 ≤ W6.heap.size := by have := b6.size; (try simp at this); omega
  have d6 : Below W5.heap.size W5 W6 := (by repeat (first | assumption | exact Below.refl _ _ | (refine Below.trans ?_ (b6.mono (by first | omega | (simp; done) | (simp; omega)))) | (refine Below.setCell ?_ (by first | omega | (simp; done) | (simp; omega)) _) | apply below_drewN | apply Below.drew | (refine Below.alloc ?_ (by first | omega | (simp; done) | (simp; omega)) _)))
  have D6 : Below w.heap.size w W6 := Below.trans D5 (d6.mono (by omega))
  have y6_c_0 : W6.cell? ⟨W1.heap.size, 0, none⟩ = some (.slice cA cm cc) := (d6.cell (p := ⟨W1.heap.size, 0, none⟩) (show W1.heap.size < W5.heap.size by omega)).trans y5_c_0
  have y6_c_1 : W6.cell? ⟨W1.heap.size, 1, none⟩ = some (.slice cB cp cd) := (d6.cell (p := ⟨W1.heap.size, 1, none⟩) (show W1.heap.size < W5.heap.size by omega)).trans y5_c_1
  have n6_c : W1.heap.size < W6.heap.size := by omega
  have y6_a_0 : W6.cell? ⟨W4.heap.size, 0, none⟩ = some (.slice aA am ac) := (d6.cell (p := ⟨W4.heap.size, 0, none⟩) (show W4.heap.size < W5.heap.size by omega)).trans y5_a_0
  have y6_a_1 : W6.cell? ⟨W4.heap.size, 1, none⟩ = some (.slice aB ap ad) := (d6.cell (p := ⟨W4.heap.size, 1, none⟩) (show W4.heap.size < W5.heap.size by omega)).trans y5_a_1
  have n6_a : W4.heap.size < W6.heap.size := by omega
  have q6_cA := Lib.hid (q5_cA.out.below (d6.mono (show W1.heap.size ≤ W5.heap.size by omega)))
  have q6_cB := Lib.hid (q5_cB.out.below (d6.mono (show W1.heap.size ≤ W5.heap.size by omega)))
  have q6_aA := Lib.hid (q5_aA.out.below (d6.mono (show W4.heap.size ≤ W5.heap.size by omega)))
  have q6_aB := Lib.hid (q5_aB.out.below (d6.mono (show W4.heap.size ≤ W5.heap.size by omega)))
  clear k6 y5_c_0 y5_c_1 n5_c y5_a_0 y5_a_1 n5_a q5_cA q5_cB q5_aA q5_aB
  go_wp2_with fail
  refine (drawSpaceTo_t A n c _ (HY.out.below (by repeat (first | assumption | exact Below.refl _ _ | (refine Below.trans ?_ (D6.mono (by first | omega | (simp; done) | (simp; omega)))) | (refine Below.setCell ?_ (by first | omega | (simp; done) | (simp; omega)) _) | apply below_drewN | apply Below.drew | (refine Below.alloc ?_ (by first | omega | (simp; done) | (simp; omega)) _)))) (by omega)).mono ?_
  rintro e7 W7 ⟨bA, bm, bc, bB, bp, bd, bl, bv, x, y, rfl, hbm, hbp, fbl, fbv, wx, wy, b7, rbA, rbB⟩
  have Hfbl := Lib.hid fbl
  have Hfbv := Lib.hid fbv
  have HrbA := Lib.hid rbA
  have HrbB := Lib.hid rbB
  clear fbl fbv rbA rbB
  obtain ⟨k7, _⟩ := bcell b7
  have s7 : W6.heap.size + 0 ≤ W7.heap.size := by have := b7.size; (try simp at this); omega
  have d7 : Below W6.heap.size W6 W7 := (by repeat (first | assumption | exact Below.refl _ _ | (refine Below.trans ?_ (b7.mono (by first | omega | (simp; done) | (simp; omega)))) | (refine Below.setCell ?_ (by first | omega | (simp; done) | (simp; omega)) _) | apply below_drewN | apply Below.drew | (refine Below.alloc ?_ (by first | omega | (simp; done) | (simp; omega)) _)))
  have D7 : Below w.heap.size w W7 := Below.trans D6 (d7.mono (by omega))
  have y7_c_0 : W7.cell? ⟨W1.heap.size, 0, none⟩ = some (.slice cA cm cc) := (d7.cell (p := ⟨W1.heap.size, 0, none⟩) (show W1.heap.size < W6.heap.size by omega)).trans y6_c_0
  have y7_c_1 : W7.cell? ⟨W1.heap.size, 1, none⟩ = some (.slice cB cp cd) := (d7.cell (p := ⟨W1.heap.size, 1, none⟩) (show W1.heap.size < W6.heap.size by omega)).trans y6_c_1
  have n7_c : W1.heap.size < W7.heap.size := by omega
  have y7_a_0 : W7.cell? ⟨W4.heap.size, 0, none⟩ = some (.slice aA am ac) := (d7.cell (p := ⟨W4.heap.size, 0, none⟩) (show W4.heap.size < W6.heap.size by omega)).trans y6_a_0
  have y7_a_1 : W7.cell? ⟨W4.heap.size, 1, none⟩ = some (.slice aB ap ad) := (d7.cell (p := ⟨W4.heap.size, 1, none⟩) (show W4.heap.size < W6.heap.size by omega)).trans y6_a_1
  have n7_a : W4.heap.size < W7.heap.size := by omega
  have q7_cA := Lib.hid (q6_cA.out.below (d7.mono (show W1.heap.size ≤ W6.heap.size by omega)))
  have q7_cB := Lib.hid (q6_cB.out.below (d7.mono (show W1.heap.size ≤ W6.heap.size by omega)))
  have q7_aA := Lib.hid (q6_aA.out.below (d7.mono (show W4.heap.size ≤ W6.heap.size by omega)))
  have q7_aB := Lib.hid (q6_aB.out.below (d7.mono (show W4.heap.size ≤ W6.heap.size by omega)))
  clear k7 y6_c_0 y6_c_1 n6_c y6_a_0 y6_a_1 n6_a q6_cA q6_cB q6_aA q6_aB
  go_wp2_with fail
  refine (implC_SpaceTo _ _ _ bl _ _ _ bv x y _ (by omega) (Rd.mono (HrbA.out.below (by repeat (first | assumption | exact Below.refl _ _ | (refine Below.setCell ?_ (by first | omega | (simp; done) | (simp; omega)) _) | apply below_drewN | apply Below.drew | (refine Below.alloc ?_ (by first | omega | (simp; done) | (simp; omega)) _)))) (by first | omega | (simp; done) | (simp; omega))) Hfbl.out (by omega) (Rd.mono (HrbB.out.below (by repeat (first | assumption | exact Below.refl _ _ | (refine Below.setCell ?_ (by first | omega | (simp; done) | (simp; omega)) _) | apply below_drewN | apply Below.drew | (refine Below.alloc ?_ (by first | omega | (simp; done) | (simp; omega)) _)))) (by first | omega | (simp; done) | (simp; omega))) Hfbv.out wx wy).mono ?_
  rintro e8 W8 ⟨rfl, b8⟩
  obtain ⟨sp, e_sp⟩ : ∃ zz_, zz_ = r0_SpaceTo bl bv x y := ⟨_, rfl⟩
  rw [← e_sp]
  have E_sp := Lib.hid e_sp
  clear e_sp
  obtain ⟨three, e_three⟩ : ∃ zz_, zz_ = r1_SpaceTo bl bv x y := ⟨_, rfl⟩
  rw [← e_three]
  have E_three := Lib.hid e_three
  clear e_three
  obtain ⟨k8, _⟩ := bcell b8
  have s8 : W7.heap.size + 1 ≤ W8.heap.size := by have := b8.size; (try simp at this); omega
  have d8 : Below W7.heap.size W7 W8 := (by repeat (first | assumption | exact Below.refl _ _ | (refine Below.trans ?_ (b8.mono (by first | omega | (simp; done) | (simp; omega)))) | (refine Below.setCell ?_ (by first | omega | (simp; done) | (simp; omega)) _) | apply below_drewN | apply Below.drew | (refine Below.alloc ?_ (by first | omega | (simp; done) | (simp; omega)) _)))
  have D8 : Below w.heap.size w W8 := Below.trans D7 (d8.mono (by omega))
  have y8_c_0 : W8.cell? ⟨W1.heap.size, 0, none⟩ = some (.slice cA cm cc) := (d8.cell (p := ⟨W1.heap.size, 0, none⟩) (show W1.heap.size < W7.heap.size by omega)).trans y7_c_0
  have y8_c_1 : W8.cell? ⟨W1.heap.size, 1, none⟩ = some (.slice cB cp cd) := (d8.cell (p := ⟨W1.heap.size, 1, none⟩) (show W1.heap.size < W7.heap.size by omega)).trans y7_c_1
  have n8_c : W1.heap.size < W8.heap.size := by omega
  have y8_a_0 : W8.cell? ⟨W4.heap.size, 0, none⟩ = some (.slice aA am ac) := (d8.cell (p := ⟨W4.heap.size, 0, none⟩) (show W4.heap.size < W7.heap.size by omega)).trans y7_a_0
  have y8_a_1 : W8.cell? ⟨W4.heap.size, 1, none⟩ = some (.slice aB ap ad) := (d8.cell (p := ⟨W4.heap.size, 1, none⟩) (show W4.heap.size < W7.heap.size by omega)).trans y7_a_1
  have n8_a : W4.heap.size < W8.heap.size := by omega
  have y8_b_0 : W8.cell? ⟨W7.heap.size, 0, none⟩ = some (.slice bA bm bc) := by rw [k8 _ _ (by first | omega | (simp; done) | (simp; omega))]; first | (simp; done) | go_simp
  have y8_b_1 : W8.cell? ⟨W7.heap.size, 1, none⟩ = some (.slice bB bp bd) := by rw [k8 _ _ (by first | omega | (simp; done) | (simp; omega))]; first | (simp; done) | go_simp
  have n8_b : W7.heap.size < W8.heap.size := by omega
  have q8_cA := Lib.hid (q7_cA.out.below (d8.mono (show W1.heap.size ≤ W7.heap.size by omega)))
  have q8_cB := Lib.hid (q7_cB.out.below (d8.mono (show W1.heap.size ≤ W7.heap.size by omega)))
  have q8_aA := Lib.hid (q7_aA.out.below (d8.mono (show W4.heap.size ≤ W7.heap.size by omega)))
  have q8_aB := Lib.hid (q7_aB.out.below (d8.mono (show W4.heap.size ≤ W7.heap.size by omega)))
  have q8_bA := Lib.hid (HrbA.out.below (d8.mono (show W7.heap.size ≤ W7.heap.size by omega)))
  have q8_bB := Lib.hid (HrbB.out.below (d8.mono (show W7.heap.size ≤ W7.heap.size by omega)))
  clear k8 y7_c_0 y7_c_1 n7_c y7_a_0 y7_a_1 n7_a q7_cA q7_cB q7_aA q7_aB HrbA HrbB
  go_wp2_with fail
  refine (implC_SpaceTo _ _ _ bl _ _ _ bv x y _ (by omega) (Rd.mono (q8_bA.out.below (by repeat (first | assumption | exact Below.refl _ _ | (refine Below.setCell ?_ (by first | omega | (simp; done) | (simp; omega)) _) | apply below_drewN | apply Below.drew | (refine Below.alloc ?_ (by first | omega | (simp; done) | (simp; omega)) _)))) (by first | omega | (simp; done) | (simp; omega))) Hfbl.out (by omega) (Rd.mono (q8_bB.out.below (by repeat (first | assumption | exact Below.refl _ _ | (refine Below.setCell ?_ (by first | omega | (simp; done) | (simp; omega)) _) | apply below_drewN | apply Below.drew | (refine Below.alloc ?_ (by first | omega | (simp; done) | (simp; omega)) _)))) (by first | omega | (simp; done) | (simp; omega))) Hfbv.out wx wy).mono ?_
  rintro e9 W9 ⟨rfl, b9⟩
  rw [← E_sp.out, ← E_three.out]
  obtain ⟨k9, _⟩ := bcell b9
  have s9 : W8.heap.size + 0 ≤ W9.heap.size := by have := b9.size; (try simp at this); omega
  have d9 : Below W8.heap.size W8 W9 := (by repeat (first | assumption | exact Below.refl _ _ | (refine Below.trans ?_ (b9.mono (by first | omega | (simp; done) | (simp; omega)))) | (refine Below.setCell ?_ (by first | omega | (simp; done) | (simp; omega)) _) | apply below_drewN | apply Below.drew | (refine Below.alloc ?_ (by first | omega | (simp; done) | (simp; omega)) _)))
  have D9 : Below w.heap.size w W9 := Below.trans D8 (d9.mono (by omega))
  have y9_c_0 : W9.cell? ⟨W1.heap.size, 0, none⟩ = some (.slice cA cm cc) := (d9.cell (p := ⟨W1.heap.size, 0, none⟩) (show W1.heap.size < W8.heap.size by omega)).trans y8_c_0
  have y9_c_1 : W9.cell? ⟨W1.heap.size, 1, none⟩ = some (.slice cB cp cd) := (d9.cell (p := ⟨W1.heap.size, 1, none⟩) (show W1.heap.size < W8.heap.size by omega)).trans y8_c_1
  have n9_c : W1.heap.size < W9.heap.size := by omega
  have y9_a_0 : W9.cell? ⟨W4.heap.size, 0, none⟩ = some (.slice aA am ac) := (d9.cell (p := ⟨W4.heap.size, 0, none⟩) (show W4.heap.size < W8.heap.size by omega)).trans y8_a_0
  have y9_a_1 : W9.cell? ⟨W4.heap.size, 1, none⟩ = some (.slice aB ap ad) := (d9.cell (p := ⟨W4.heap.size, 1, none⟩) (show W4.heap.size < W8.heap.size by omega)).trans y8_a_1
  have n9_a : W4.heap.size < W9.heap.size := by omega
  have y9_b_0 : W9.cell? ⟨W7.heap.size, 0, none⟩ = some (.slice bA bm bc) := (d9.cell (p := ⟨W7.heap.size, 0, none⟩) (show W7.heap.size < W8.heap.size by omega)).trans y8_b_0
  have y9_b_1 : W9.cell? ⟨W7.heap.size, 1, none⟩ = some (.slice bB bp bd) := (d9.cell (p := ⟨W7.heap.size, 1, none⟩) (show W7.heap.size < W8.heap.size by omega)).trans y8_b_1
  have n9_b : W7.heap.size < W9.heap.size := by omega
  have q9_cA := Lib.hid (q8_cA.out.below (d9.mono (show W1.heap.size ≤ W8.heap.size by omega)))
  have q9_cB := Lib.hid (q8_cB.out.below (d9.mono (show W1.heap.size ≤ W8.heap.size by omega)))
  have q9_aA := Lib.hid (q8_aA.out.below (d9.mono (show W4.heap.size ≤ W8.heap.size by omega)))
  have q9_aB := Lib.hid (q8_aB.out.below (d9.mono (show W4.heap.size ≤ W8.heap.size by omega)))
  have q9_bA := Lib.hid (q8_bA.out.below (d9.mono (show W7.heap.size ≤ W8.heap.size by omega)))
  have q9_bB := Lib.hid (q8_bB.out.below (d9.mono (show W7.heap.size ≤ W8.heap.size by omega)))
  clear k9 y8_c_0 y8_c_1 n8_c y8_a_0 y8_a_1 n8_a y8_b_0 y8_b_1 n8_b q8_cA q8_cB q8_aA q8_aB q8_bA q8_bB
  go_wp2_with fail
  refine (specC_SpaceTo _ _ _ bl _ _ _ bv x y _ (by omega) (Rd.mono (q9_bA.out.below (by repeat (first | assumption | exact Below.refl _ _ | (refine Below.setCell ?_ (by first | omega | (simp; done) | (simp; omega)) _) | apply below_drewN | apply Below.drew | (refine Below.alloc ?_ (by first | omega | (simp; done) | (simp; omega)) _)))) (by first | omega | (simp; done) | (simp; omega))) Hfbl.out (by omega) (Rd.mono (q9_bB.out.below (by repeat (first | assumption | exact Below.refl _ _ | (refine Below.setCell ?_ (by first | omega | (simp; done) | (simp; omega)) _) | apply below_drewN | apply Below.drew | (refine Below.alloc ?_ (by first | omega | (simp; done) | (simp; omega)) _)))) (by first | omega | (simp; done) | (simp; omega))) Hfbv.out wx wy).mono ?_
  rintro e10 W10 ⟨rfl, b10⟩
  rw [← E_sp.out, ← E_three.out]
  obtain ⟨k10, _⟩ := bcell b10
  have s10 : W9.heap.size + 0 ≤ W10.heap.size := by have := b10.size; (try simp at this); omega
  have d10 : Below W9.heap.size W9 W10 := (by repeat (first | assumption | exact Below.refl _ _ | (refine Below.trans ?_ (b10.mono (by first | omega | (simp; done) | (simp; omega)))) | (refine Below.setCell ?_ (by first | omega | (simp; done) | (simp; omega)) _) | apply below_drewN | apply Below.drew | (refine Below.alloc ?_ (by first | omega | (simp; done) | (simp; omega)) _)))
  have D10 : Below w.heap.size w W10 := Below.trans D9 (d10.mono (by omega))
  have y10_c_0 : W10.cell? ⟨W1.heap.size, 0, none⟩ = some (.slice cA cm cc) := (d10.cell (p := ⟨W1.heap.size, 0, none⟩) (show W1.heap.size < W9.heap.size by omega)).trans y9_c_0
  have y10_c_1 : W10.cell? ⟨W1.heap.size, 1, none⟩ = some (.slice cB cp cd) := (d10.cell (p := ⟨W1.heap.size, 1, none⟩) (show W1.heap.size < W9.heap.size by omega)).trans y9_c_1
  have n10_c : W1.heap.size < W10.heap.size := by omega
  have y10_a_0 : W10.cell? ⟨W4.heap.size, 0, none⟩ = some (.slice aA am ac) := (d10.cell (p := ⟨W4.heap.size, 0, none⟩) (show W4.heap.size < W9.heap.size by omega)).trans y9_a_0
  have y10_a_1 : W10.cell? ⟨W4.heap.size, 1, none⟩ = some (.slice aB ap ad) := (d10.cell (p := ⟨W4.heap.size, 1, none⟩) (show W4.heap.size < W9.heap.size by omega)).trans y9_a_1
  have n10_a : W4.heap.size < W10.heap.size := by omega
  have y10_b_0 : W10.cell? ⟨W7.heap.size, 0, none⟩ = some (.slice bA bm bc) := (d10.cell (p := ⟨W7.heap.size, 0, none⟩) (show W7.heap.size < W9.heap.size by omega)).trans y9_b_0
  have y10_b_1 : W10.cell? ⟨W7.heap.size, 1, none⟩ = some (.slice bB bp bd) := (d10.cell (p := ⟨W7.heap.size, 1, none⟩) (show W7.heap.size < W9.heap.size by omega)).trans y9_b_1
  have n10_b : W7.heap.size < W10.heap.size := by omega
  have q10_cA := Lib.hid (q9_cA.out.below (d10.mono (show W1.heap.size ≤ W9.heap.size by omega)))
  have q10_cB := Lib.hid (q9_cB.out.below (d10.mono (show W1.heap.size ≤ W9.heap.size by omega)))
  have q10_aA := Lib.hid (q9_aA.out.below (d10.mono (show W4.heap.size ≤ W9.heap.size by omega)))
  have q10_aB := Lib.hid (q9_aB.out.below (d10.mono (show W4.heap.size ≤ W9.heap.size by omega)))
  have q10_bA := Lib.hid (q9_bA.out.below (d10.mono (show W7.heap.size ≤ W9.heap.size by omega)))
  have q10_bB := Lib.hid (q9_bB.out.below (d10.mono (show W7.heap.size ≤ W9.heap.size by omega)))
  clear k10 y9_c_0 y9_c_1 n9_c y9_a_0 y9_a_1 n9_a y9_b_0 y9_b_1 n9_b q9_cA q9_cB q9_aA q9_aB q9_bA q9_bB
  go_wp2_with fail
  refine (drawVolumeAt_t A n c _ (HY.out.below (by repeat (first | assumption | exact Below.refl _ _ | (refine Below.trans ?_ (D10.mono (by first | omega | (simp; done) | (simp; omega)))) | (refine Below.setCell ?_ (by first | omega | (simp; done) | (simp; omega)) _) | apply below_drewN | apply Below.drew | (refine Below.alloc ?_ (by first | omega | (simp; done) | (simp; omega)) _)))) (by omega)).mono ?_
  rintro e11 W11 ⟨dA, dm, dc, dB, dp, dd, dl, dv, yt, rfl, hdm, hdp, fdl, fdv, wyt, b11, rdA, rdB⟩
  have Hfdl := Lib.hid fdl
  have Hfdv := Lib.hid fdv
  have HrdA := Lib.hid rdA
  have HrdB := Lib.hid rdB
  clear fdl fdv rdA rdB
  obtain ⟨k11, _⟩ := bcell b11
  have s11 : W10.heap.size + 0 ≤ W11.heap.size := by have := b11.size; (try simp at this); omega
  have d11 : Below W10.heap.size W10 W11 := (by repeat (first | assumption | exact Below.refl _ _ | (refine Below.trans ?_ (b11.mono (by first | omega | (simp; done) | (simp; omega)))) | (refine Below.setCell ?_ (by first | omega | (simp; done) | (simp; omega)) _) | apply below_drewN | apply Below.drew | (refine Below.alloc ?_ (by first | omega | (simp; done) | (simp; omega)) _)))
  have D11 : Below w.heap.size w W11 := Below.trans D10 (d11.mono (by omega))
  have y11_c_0 : W11.cell? ⟨W1.heap.size, 0, none⟩ = some (.slice cA cm cc) := (d11.cell (p := ⟨W1.heap.size, 0, none⟩) (show W1.heap.size < W10.heap.size by omega)).trans y10_c_0
  have y11_c_1 : W11.cell? ⟨W1.heap.size, 1, none⟩ = some (.slice cB cp cd) := (d11.cell (p := ⟨W1.heap.size, 1, none⟩) (show W1.heap.size < W10.heap.size by omega)).trans y10_c_1
  have n11_c : W1.heap.size < W11.heap.size := by omega
  have y11_a_0 : W11.cell? ⟨W4.heap.size, 0, none⟩ = some (.slice aA am ac) := (d11.cell (p := ⟨W4.heap.size, 0, none⟩) (show W4.heap.size < W10.heap.size by omega)).trans y10_a_0
  have y11_a_1 : W11.cell? ⟨W4.heap.size, 1, none⟩ = some (.slice aB ap ad) := (d11.cell (p := ⟨W4.heap.size, 1, none⟩) (show W4.heap.size < W10.heap.size by omega)).trans y10_a_1
  have n11_a : W4.heap.size < W11.heap.size := by omega
  have q11_cA := Lib.hid (q10_cA.out.below (d11.mono (show W1.heap.size ≤ W10.heap.size by omega)))
  have q11_cB := Lib.hid (q10_cB.out.below (d11.mono (show W1.heap.size ≤ W10.heap.size by omega)))
  have q11_aA := Lib.hid (q10_aA.out.below (d11.mono (show W4.heap.size ≤ W10.heap.size by omega)))
  have q11_aB := Lib.hid (q10_aB.out.below (d11.mono (show W4.heap.size ≤ W10.heap.size by omega)))
  clear k11 y10_c_0 y10_c_1 n10_c y10_a_0 y10_a_1 n10_a q10_cA q10_cB q10_aA q10_aB
  go_wp2_with fail
  refine (implC_VolumeAt _ _ _ dl _ _ _ dv yt _ (by omega) (Rd.mono (HrdA.out.below (by repeat (first | assumption | exact Below.refl _ _ | (refine Below.setCell ?_ (by first | omega | (simp; done) | (simp; omega)) _) | apply below_drewN | apply Below.drew | (refine Below.alloc ?_ (by first | omega | (simp; done) | (simp; omega)) _)))) (by first | omega | (simp; done) | (simp; omega))) Hfdl.out (by omega) (Rd.mono (HrdB.out.below (by repeat (first | assumption | exact Below.refl _ _ | (refine Below.setCell ?_ (by first | omega | (simp; done) | (simp; omega)) _) | apply below_drewN | apply Below.drew | (refine Below.alloc ?_ (by first | omega | (simp; done) | (simp; omega)) _)))) (by first | omega | (simp; done) | (simp; omega))) Hfdv.out wyt).mono ?_
  rintro e12 W12 ⟨rfl, b12⟩
  obtain ⟨vo, e_vo⟩ : ∃ zz_, zz_ = r0_VolumeAt dl dv yt := ⟨_, rfl⟩
  rw [← e_vo]
  have E_vo := Lib.hid e_vo
  clear e_vo
  obtain ⟨six, e_six⟩ : ∃ zz_, zz_ = r1_VolumeAt dl dv yt := ⟨_, rfl⟩
  rw [← e_six]
  have E_six := Lib.hid e_six
  clear e_six
  obtain ⟨k12, _⟩ := bcell b12
  have s12 : W11.heap.size + 1 ≤ W12.heap.size := by have := b12.size; (try simp at this); omega
  have d12 : Below W11.heap.size W11 W12 := (by repeat (first | assumption | exact Below.refl _ _ | (refine Below.trans ?_ (b12.mono (by first | omega | (simp; done) | (simp; omega)))) | (refine Below.setCell ?_ (by first | omega | (simp; done) | (simp; omega)) _) | apply below_drewN | apply Below.drew | (refine Below.alloc ?_ (by first | omega | (simp; done) | (simp; omega)) _)))
  have D12 : Below w.heap.size w W12 := Below.trans D11 (d12.mono (by omega))
  have y12_c_0 : W12.cell? ⟨W1.heap.size, 0, none⟩ = some (.slice cA cm cc) := (d12.cell (p := ⟨W1.heap.size, 0, none⟩) (show W1.heap.size < W11.heap.size by omega)).trans y11_c_0
  have y12_c_1 : W12.cell? ⟨W1.heap.size, 1, none⟩ = some (.slice cB cp cd) := (d12.cell (p := ⟨W1.heap.size, 1, none⟩) (show W1.heap.size < W11.heap.size by omega)).trans y11_c_1
  have n12_c : W1.heap.size < W12.heap.size := by omega
  have y12_a_0 : W12.cell? ⟨W4.heap.size, 0, none⟩ = some (.slice aA am ac) := (d12.cell (p := ⟨W4.heap.size, 0, none⟩) (show W4.heap.size < W11.heap.size by omega)).trans y11_a_0
  have y12_a_1 : W12.cell? ⟨W4.heap.size, 1, none⟩ = some (.slice aB ap ad) := (d12.cell (p := ⟨W4.heap.size, 1, none⟩) (show W4.heap.size < W11.heap.size by omega)).trans y11_a_1
  have n12_a : W4.heap.size < W12.heap.size := by omega
  have y12_d_0 : W12.cell? ⟨W11.heap.size, 0, none⟩ = some (.slice dA dm dc) := by rw [k12 _ _ (by first | omega | (simp; done) | (simp; omega))]; first | (simp; done) | go_simp
  have y12_d_1 : W12.cell? ⟨W11.heap.size, 1, none⟩ = some (.slice dB dp dd) := by rw [k12 _ _ (by first | omega | (simp; done) | (simp; omega))]; first | (simp; done) | go_simp
  have n12_d : W11.heap.size < W12.heap.size := by omega
  have q12_cA := Lib.hid (q11_cA.out.below (d12.mono (show W1.heap.size ≤ W11.heap.size by omega)))
  have q12_cB := Lib.hid (q11_cB.out.below (d12.mono (show W1.heap.size ≤ W11.heap.size by omega)))
  have q12_aA := Lib.hid (q11_aA.out.below (d12.mono (show W4.heap.size ≤ W11.heap.size by omega)))
  have q12_aB := Lib.hid (q11_aB.out.below (d12.mono (show W4.heap.size ≤ W11.heap.size by omega)))
  have q12_dA := Lib.hid (HrdA.out.below (d12.mono (show W11.heap.size ≤ W11.heap.size by omega)))
  have q12_dB := Lib.hid (HrdB.out.below (d12.mono (show W11.heap.size ≤ W11.heap.size by omega)))
  clear k12 y11_c_0 y11_c_1 n11_c y11_a_0 y11_a_1 n11_a q11_cA q11_cB q11_aA q11_aB HrdA HrdB
  go_wp2_with fail
  refine (specC_VolumeAt _ _ _ dl _ _ _ dv yt _ (by omega) (Rd.mono (q12_dA.out.below (by repeat (first | assumption | exact Below.refl _ _ | (refine Below.setCell ?_ (by first | omega | (simp; done) | (simp; omega)) _) | apply below_drewN | apply Below.drew | (refine Below.alloc ?_ (by first | omega | (simp; done) | (simp; omega)) _)))) (by first | omega | (simp; done) | (simp; omega))) Hfdl.out (by omega) (Rd.mono (q12_dB.out.below (by repeat (first | assumption | exact Below.refl _ _ | (refine Below.setCell ?_ (by first | omega | (simp; done) | (simp; omega)) _) | apply below_drewN | apply Below.drew | (refine Below.alloc ?_ (by first | omega | (simp; done) | (simp; omega)) _)))) (by first | omega | (simp; done) | (simp; omega))) Hfdv.out wyt).mono ?_
  rintro e13 W13 ⟨rfl, b13⟩
  rw [← E_vo.out, ← E_six.out]
  obtain ⟨k13, _⟩ := bcell b13
  have s13 : W12.heap.size + 0 ≤ W13.heap.size := by have := b13.size; (try simp at this); omega
  have d13 : Below W12.heap.size W12 W13 := (by repeat (first | assumption | exact Below.refl _ _ | (refine Below.trans ?_ (b13.mono (by first | omega | (simp; done) | (simp; omega)))) | (refine Below.setCell ?_ (by first | omega | (simp; done) | (simp; omega)) _) | apply below_drewN | apply Below.drew | (refine Below.alloc ?_ (by first | omega | (simp; done) | (simp; omega)) _)))
  have D13 : Below w.heap.size w W13 := Below.trans D12 (d13.mono (by omega))
  have y13_c_0 : W13.cell? ⟨W1.heap.size, 0, none⟩ = some (.slice cA cm cc) := (d13.cell (p := ⟨W1.heap.size, 0, none⟩) (show W1.heap.size < W12.heap.size by omega)).trans y12_c_0
  have y13_c_1 : W13.cell? ⟨W1.heap.size, 1, none⟩ = some (.slice cB cp cd) := (d13.cell (p := ⟨W1.heap.size, 1, none⟩) (show W1.heap.size < W12.heap.size by omega)).trans y12_c_1
  have n13_c : W1.heap.size < W13.heap.size := by omega
  have y13_a_0 : W13.cell? ⟨W4.heap.size, 0, none⟩ = some (.slice aA am ac) := (d13.cell (p := ⟨W4.heap.size, 0, none⟩) (show W4.heap.size < W12.heap.size by omega)).trans y12_a_0
  have y13_a_1 : W13.cell? ⟨W4.heap.size, 1, none⟩ = some (.slice aB ap ad) := (d13.cell (p := ⟨W4.heap.size, 1, none⟩) (show W4.heap.size < W12.heap.size by omega)).trans y12_a_1
  have n13_a : W4.heap.size < W13.heap.size := by omega
  have y13_d_0 : W13.cell? ⟨W11.heap.size, 0, none⟩ = some (.slice dA dm dc) := (d13.cell (p := ⟨W11.heap.size, 0, none⟩) (show W11.heap.size < W12.heap.size by omega)).trans y12_d_0
  have y13_d_1 : W13.cell? ⟨W11.heap.size, 1, none⟩ = some (.slice dB dp dd) := (d13.cell (p := ⟨W11.heap.size, 1, none⟩) (show W11.heap.size < W12.heap.size by omega)).trans y12_d_1
  have n13_d : W11.heap.size < W13.heap.size := by omega
  have q13_cA := Lib.hid (q12_cA.out.below (d13.mono (show W1.heap.size ≤ W12.heap.size by omega)))
  have q13_cB := Lib.hid (q12_cB.out.below (d13.mono (show W1.heap.size ≤ W12.heap.size by omega)))
  have q13_aA := Lib.hid (q12_aA.out.below (d13.mono (show W4.heap.size ≤ W12.heap.size by omega)))
  have q13_aB := Lib.hid (q12_aB.out.below (d13.mono (show W4.heap.size ≤ W12.heap.size by omega)))
  have q13_dA := Lib.hid (q12_dA.out.below (d13.mono (show W11.heap.size ≤ W12.heap.size by omega)))
  have q13_dB := Lib.hid (q12_dB.out.below (d13.mono (show W11.heap.size ≤ W12.heap.size by omega)))
  clear k13 y12_c_0 y12_c_1 n12_c y12_a_0 y12_a_1 n12_a y12_d_0 y12_d_1 n12_d q12_cA q12_cB q12_aA q12_aB q12_dA q12_dB
  go_wp2_with fail
  refine (implC_AreaAt _ _ _ dl _ _ _ dv yt _ (by omega) (Rd.mono (q13_dA.out.below (by repeat (first | assumption | exact Below.refl _ _ | (refine Below.setCell ?_ (by first | omega | (simp; done) | (simp; omega)) _) | apply below_drewN | apply Below.drew | (refine Below.alloc ?_ (by first | omega | (simp; done) | (simp; omega)) _)))) (by first | omega | (simp; done) | (simp; omega))) Hfdl.out (by omega) (Rd.mono (q13_dB.out.below (by repeat (first | assumption | exact Below.refl _ _ | (refine Below.setCell ?_ (by first | omega | (simp; done) | (simp; omega)) _) | apply below_drewN | apply Below.drew | (refine Below.alloc ?_ (by first | omega | (simp; done) | (simp; omega)) _)))) (by first | omega | (simp; done) | (simp; omega))) Hfdv.out wyt).mono ?_
  rintro e14 W14 ⟨rfl, b14⟩
  obtain ⟨fn, e_fn⟩ : ∃ zz_, zz_ = r0_AreaAt dl dv yt := ⟨_, rfl⟩
  rw [← e_fn]
  have E_fn := Lib.hid e_fn
  clear e_fn
  obtain ⟨fd, e_fd⟩ : ∃ zz_, zz_ = r1_AreaAt dl dv yt := ⟨_, rfl⟩
  rw [← e_fd]
  have E_fd := Lib.hid e_fd
  clear e_fd
  obtain ⟨eight, e_eight⟩ : ∃ zz_, zz_ = r2_AreaAt dl dv yt := ⟨_, rfl⟩
  rw [← e_eight]
  have E_eight := Lib.hid e_eight
  clear e_eight
  obtain ⟨k14, _⟩ := bcell b14
  have s14 : W13.heap.size + 0 ≤ W14.heap.size := by have := b14.size; (try simp at this); omega
  have d14 : Below W13.heap.size W13 W14 := (by repeat (first | assumption | exact Below.refl _ _ | (refine Below.trans ?_ (b14.mono (by first | omega | (simp; done) | (simp; omega)))) | (refine Below.setCell ?_ (by first | omega | (simp; done) | (simp; omega)) _) | apply below_drewN | apply Below.drew | (refine Below.alloc ?_ (by first | omega | (simp; done) | (simp; omega)) _)))
  have D14 : Below w.heap.size w W14 := Below.trans D13 (d14.mono (by omega))
  have y14_c_0 : W14.cell? ⟨W1.heap.size, 0, none⟩ = some (.slice cA cm cc) := (d14.cell (p := ⟨W1.heap.size, 0, none⟩) (show W1.heap.size < W13.heap.size by omega)).trans y13_c_0
  have y14_c_1 : W14.cell? ⟨W1.heap.size, 1, none⟩ = some (.slice cB cp cd) := (d14.cell (p := ⟨W1.heap.size, 1, none⟩) (show W1.heap.size < W13.heap.size by omega)).trans y13_c_1
  have n14_c : W1.heap.size < W14.heap.size := by omega
  have y14_a_0 : W14.cell? ⟨W4.heap.size, 0, none⟩ = some (.slice aA am ac) := (d14.cell (p := ⟨W4.heap.size, 0, none⟩) (show W4.heap.size < W13.heap.size by omega)).trans y13_a_0
  have y14_a_1 : W14.cell? ⟨W4.heap.size, 1, none⟩ = some (.slice aB ap ad) := (d14.cell (p := ⟨W4.heap.size, 1, none⟩) (show W4.heap.size < W13.heap.size by omega)).trans y13_a_1
  have n14_a : W4.heap.size < W14.heap.size := by omega
  have y14_d_0 : W14.cell? ⟨W11.heap.size, 0, none⟩ = some (.slice dA dm dc) := (d14.cell (p := ⟨W11.heap.size, 0, none⟩) (show W11.heap.size < W13.heap.size by omega)).trans y13_d_0
  have y14_d_1 : W14.cell? ⟨W11.heap.size, 1, none⟩ = some (.slice dB dp dd) := (d14.cell (p := ⟨W11.heap.size, 1, none⟩) (show W11.heap.size < W13.heap.size by omega)).trans y13_d_1
  have n14_d : W11.heap.size < W14.heap.size := by omega
  have q14_cA := Lib.hid (q13_cA.out.below (d14.mono (show W1.heap.size ≤ W13.heap.size by omega)))
  have q14_cB := Lib.hid (q13_cB.out.below (d14.mono (show W1.heap.size ≤ W13.heap.size by omega)))
  have q14_aA := Lib.hid (q13_aA.out.below (d14.mono (show W4.heap.size ≤ W13.heap.size by omega)))
  have q14_aB := Lib.hid (q13_aB.out.below (d14.mono (show W4.heap.size ≤ W13.heap.size by omega)))
  have q14_dA := Lib.hid (q13_dA.out.below (d14.mono (show W11.heap.size ≤ W13.heap.size by omega)))
  have q14_dB := Lib.hid (q13_dB.out.below (d14.mono (show W11.heap.size ≤ W13.heap.size by omega)))
  clear k14 y13_c_0 y13_c_1 n13_c y13_a_0 y13_a_1 n13_a y13_d_0 y13_d_1 n13_d q13_cA q13_cB q13_aA q13_aB q13_dA q13_dB
  go_wp2_with fail
  refine (specC_AreaAt _ _ _ dl _ _ _ dv yt _ (by omega) (Rd.mono (q14_dA.out.below (by repeat (first | assumption | exact Below.refl _ _ | (refine Below.setCell ?_ (by first | omega | (simp; done) | (simp; omega)) _) | apply below_drewN | apply Below.drew | (refine Below.alloc ?_ (by first | omega | (simp; done) | (simp; omega)) _)))) (by first | omega | (simp; done) | (simp; omega))) Hfdl.out (by omega) (Rd.mono (q14_dB.out.below (by repeat (first | assumption | exact Below.refl _ _ | (refine Below.setCell ?_ (by first | omega | (simp; done) | (simp; omega)) _) | apply below_drewN | apply Below.drew | (refine Below.alloc ?_ (by first | omega | (simp; done) | (simp; omega)) _)))) (by first | omega | (simp; done) | (simp; omega))) Hfdv.out wyt).mono ?_
  rintro e15 W15 ⟨rfl, b15⟩
  rw [← E_fn.out, ← E_fd.out, ← E_eight.out]
  obtain ⟨k15, _⟩ := bcell b15
  have s15 : W14.heap.size + 1 ≤ W15.heap.size := by have := b15.size; (try simp at this); omega
  have d15 : Below W14.heap.size W14 W15 := (by repeat (first | assumption | exact Below.refl _ _ | (refine Below.trans ?_ (b15.mono (by first | omega | (simp; done) | (simp; omega)))) | (refine Below.setCell ?_ (by first | omega | (simp; done) | (simp; omega)) _) | apply below_drewN | apply Below.drew | (refine Below.alloc ?_ (by first | omega | (simp; done) | (simp; omega)) _)))
  have D15 : Below w.heap.size w W15 := Below.trans D14 (d15.mono (by omega))
  have y15_c_0 : W15.cell? ⟨W1.heap.size, 0, none⟩ = some (.slice cA cm cc) := (d15.cell (p := ⟨W1.heap.size, 0, none⟩) (show W1.heap.size < W14.heap.size by omega)).trans y14_c_0
  have y15_c_1 : W15.cell? ⟨W1.heap.size, 1, none⟩ = some (.slice cB cp cd) := (d15.cell (p := ⟨W1.heap.size, 1, none⟩) (show W1.heap.size < W14.heap.size by omega)).trans y14_c_1
  have n15_c : W1.heap.size < W15.heap.size := by omega
  have y15_a_0 : W15.cell? ⟨W4.heap.size, 0, none⟩ = some (.slice aA am ac) := (d15.cell (p := ⟨W4.heap.size, 0, none⟩) (show W4.heap.size < W14.heap.size by omega)).trans y14_a_0
  have y15_a_1 : W15.cell? ⟨W4.heap.size, 1, none⟩ = some (.slice aB ap ad) := (d15.cell (p := ⟨W4.heap.size, 1, none⟩) (show W4.heap.size < W14.heap.size by omega)).trans y14_a_1
  have n15_a : W4.heap.size < W15.heap.size := by omega
  have y15_d_0 : W15.cell? ⟨W11.heap.size, 0, none⟩ = some (.slice dA dm dc) := (d15.cell (p := ⟨W11.heap.size, 0, none⟩) (show W11.heap.size < W14.heap.size by omega)).trans y14_d_0
  have y15_d_1 : W15.cell? ⟨W11.heap.size, 1, none⟩ = some (.slice dB dp dd) := (d15.cell (p := ⟨W11.heap.size, 1, none⟩) (show W11.heap.size < W14.heap.size by omega)).trans y14_d_1
  have n15_d : W11.heap.size < W15.heap.size := by omega
  have y15_f_0 : W15.cell? ⟨W14.heap.size, 0, none⟩ = some (.int .i64 fn) := by rw [k15 _ _ (by first | omega | (simp; done) | (simp; omega))]; first | (simp; done) | go_simp
  have y15_f_1 : W15.cell? ⟨W14.heap.size, 1, none⟩ = some (.int .i64 fd) := by rw [k15 _ _ (by first | omega | (simp; done) | (simp; omega))]; first | (simp; done) | go_simp
  have n15_f : W14.heap.size < W15.heap.size := by omega
  have q15_cA := Lib.hid (q14_cA.out.below (d15.mono (show W1.heap.size ≤ W14.heap.size by omega)))
  have q15_cB := Lib.hid (q14_cB.out.below (d15.mono (show W1.heap.size ≤ W14.heap.size by omega)))
  have q15_aA := Lib.hid (q14_aA.out.below (d15.mono (show W4.heap.size ≤ W14.heap.size by omega)))
  have q15_aB := Lib.hid (q14_aB.out.below (d15.mono (show W4.heap.size ≤ W14.heap.size by omega)))
  have q15_dA := Lib.hid (q14_dA.out.below (d15.mono (show W11.heap.size ≤ W14.heap.size by omega)))
  have q15_dB := Lib.hid (q14_dB.out.below (d15.mono (show W11.heap.size ≤ W14.heap.size by omega)))
  clear k15 y14_c_0 y14_c_1 n14_c y14_a_0 y14_a_1 n14_a y14_d_0 y14_d_1 n14_d q14_cA q14_cB q14_aA q14_aB q14_dA q14_dB
  by_cases h80 : eight = 0
  · subst h80
    have hfn := sto_area E_eight.out.symm
    rw [← E_fn.out] at hfn
    by_cases h10 : one = 0
    · subst h10
      obtain ⟨m0, m1, m2, m3, m4, ⟨m5, m6⟩, m7, m8⟩ := sto_add E_one.out.symm
      rw [← E_to.out] at m0 m1 m3 m4
      have wto := Lib.hid (WalkArith.wf_i64 (n := to) (by omega))
      obtain ⟨be, e_be⟩ : ∃ zz_, zz_ = r0_VolumeAt al av fr := ⟨_, rfl⟩
      obtain ⟨af, e_af⟩ : ∃ zz_, zz_ = r0_VolumeAt al av to := ⟨_, rfl⟩
      rw [← e_be] at m4 m5 m6
      rw [← e_af] at m4
      have E_be := Lib.hid e_be
      have E_af := Lib.hid e_af
      have M2 := Lib.hid m2
      have M3 := Lib.hid m3
      clear e_be e_af m2 m3
      go_wp2_with fail
      refine (implC_VolumeAt _ _ _ al _ _ _ av fr _ (by omega) (Rd.mono (q15_aA.out.below (by repeat (first | assumption | exact Below.refl _ _ | (refine Below.setCell ?_ (by first | omega | (simp; done) | (simp; omega)) _) | apply below_drewN | apply Below.drew | (refine Below.alloc ?_ (by first | omega | (simp; done) | (simp; omega)) _)))) (by first | omega | (simp; done) | (simp; omega))) Hfal.out (by omega) (Rd.mono (q15_aB.out.below (by repeat (first | assumption | exact Below.refl _ _ | (refine Below.setCell ?_ (by first | omega | (simp; done) | (simp; omega)) _) | apply below_drewN | apply Below.drew | (refine Below.alloc ?_ (by first | omega | (simp; done) | (simp; omega)) _)))) (by first | omega | (simp; done) | (simp; omega))) Hfav.out wfr).mono ?_
      rintro e16 W16 ⟨rfl, b16⟩
      rw [M2.out]
      rw [← E_be.out]
      obtain ⟨k16, _⟩ := bcell b16
      have s16 : W15.heap.size + 1 ≤ W16.heap.size := by have := b16.size; (try simp at this); omega
      have d16 : Below W15.heap.size W15 W16 := (by repeat (first | assumption | exact Below.refl _ _ | (refine Below.trans ?_ (b16.mono (by first | omega | (simp; done) | (simp; omega)))) | (refine Below.setCell ?_ (by first | omega | (simp; done) | (simp; omega)) _) | apply below_drewN | apply Below.drew | (refine Below.alloc ?_ (by first | omega | (simp; done) | (simp; omega)) _)))
      have D16 : Below w.heap.size w W16 := Below.trans D15 (d16.mono (by omega))
      have y16_c_0 : W16.cell? ⟨W1.heap.size, 0, none⟩ = some (.slice cA cm cc) := (d16.cell (p := ⟨W1.heap.size, 0, none⟩) (show W1.heap.size < W15.heap.size by omega)).trans y15_c_0
      have y16_c_1 : W16.cell? ⟨W1.heap.size, 1, none⟩ = some (.slice cB cp cd) := (d16.cell (p := ⟨W1.heap.size, 1, none⟩) (show W1.heap.size < W15.heap.size by omega)).trans y15_c_1
      have n16_c : W1.heap.size < W16.heap.size := by omega
      have y16_a_0 : W16.cell? ⟨W4.heap.size, 0, none⟩ = some (.slice aA am ac) := (d16.cell (p := ⟨W4.heap.size, 0, none⟩) (show W4.heap.size < W15.heap.size by omega)).trans y15_a_0
      have y16_a_1 : W16.cell? ⟨W4.heap.size, 1, none⟩ = some (.slice aB ap ad) := (d16.cell (p := ⟨W4.heap.size, 1, none⟩) (show W4.heap.size < W15.heap.size by omega)).trans y15_a_1
      have n16_a : W4.heap.size < W16.heap.size := by omega
      have y16_d_0 : W16.cell? ⟨W11.heap.size, 0, none⟩ = some (.slice dA dm dc) := (d16.cell (p := ⟨W11.heap.size, 0, none⟩) (show W11.heap.size < W15.heap.size by omega)).trans y15_d_0
      have y16_d_1 : W16.cell? ⟨W11.heap.size, 1, none⟩ = some (.slice dB dp dd) := (d16.cell (p := ⟨W11.heap.size, 1, none⟩) (show W11.heap.size < W15.heap.size by omega)).trans y15_d_1
      have n16_d : W11.heap.size < W16.heap.size := by omega
      have y16_f_0 : W16.cell? ⟨W14.heap.size, 0, none⟩ = some (.int .i64 fn) := (d16.cell (p := ⟨W14.heap.size, 0, none⟩) (show W14.heap.size < W15.heap.size by omega)).trans y15_f_0
      have y16_f_1 : W16.cell? ⟨W14.heap.size, 1, none⟩ = some (.int .i64 fd) := (d16.cell (p := ⟨W14.heap.size, 1, none⟩) (show W14.heap.size < W15.heap.size by omega)).trans y15_f_1
      have n16_f : W14.heap.size < W16.heap.size := by omega
      have y16_g_0 : W16.cell? ⟨W15.heap.size, 0, none⟩ = some (.int .i64 fn) := by rw [k16 _ _ (by first | omega | (simp; done) | (simp; omega))]; first | (simp; done) | go_simp
      have y16_g_1 : W16.cell? ⟨W15.heap.size, 1, none⟩ = some (.int .i64 fd) := by rw [k16 _ _ (by first | omega | (simp; done) | (simp; omega))]; first | (simp; done) | go_simp
      have n16_g : W15.heap.size < W16.heap.size := by omega
      have q16_cA := Lib.hid (q15_cA.out.below (d16.mono (show W1.heap.size ≤ W15.heap.size by omega)))
      have q16_cB := Lib.hid (q15_cB.out.below (d16.mono (show W1.heap.size ≤ W15.heap.size by omega)))
      have q16_aA := Lib.hid (q15_aA.out.below (d16.mono (show W4.heap.size ≤ W15.heap.size by omega)))
      have q16_aB := Lib.hid (q15_aB.out.below (d16.mono (show W4.heap.size ≤ W15.heap.size by omega)))
      have q16_dA := Lib.hid (q15_dA.out.below (d16.mono (show W11.heap.size ≤ W15.heap.size by omega)))
      have q16_dB := Lib.hid (q15_dB.out.below (d16.mono (show W11.heap.size ≤ W15.heap.size by omega)))
      clear k16 y15_c_0 y15_c_1 n15_c y15_a_0 y15_a_1 n15_a y15_d_0 y15_d_1 n15_d y15_f_0 y15_f_1 n15_f q15_cA q15_cB q15_aA q15_aB q15_dA q15_dB
      go_wp2_with fail
      refine (implC_VolumeAt _ _ _ al _ _ _ av to _ (by omega) (Rd.mono (q16_aA.out.below (by repeat (first | assumption | exact Below.refl _ _ | (refine Below.setCell ?_ (by first | omega | (simp; done) | (simp; omega)) _) | apply below_drewN | apply Below.drew | (refine Below.alloc ?_ (by first | omega | (simp; done) | (simp; omega)) _)))) (by first | omega | (simp; done) | (simp; omega))) Hfal.out (by omega) (Rd.mono (q16_aB.out.below (by repeat (first | assumption | exact Below.refl _ _ | (refine Below.setCell ?_ (by first | omega | (simp; done) | (simp; omega)) _) | apply below_drewN | apply Below.drew | (refine Below.alloc ?_ (by first | omega | (simp; done) | (simp; omega)) _)))) (by first | omega | (simp; done) | (simp; omega))) Hfav.out wto.out).mono ?_
      rintro e17 W17 ⟨rfl, b17⟩
      rw [M3.out]
      rw [← E_af.out]
      obtain ⟨k17, _⟩ := bcell b17
      have s17 : W16.heap.size + 0 ≤ W17.heap.size := by have := b17.size; (try simp at this); omega
      have d17 : Below W16.heap.size W16 W17 := (by repeat (first | assumption | exact Below.refl _ _ | (refine Below.trans ?_ (b17.mono (by first | omega | (simp; done) | (simp; omega)))) | (refine Below.setCell ?_ (by first | omega | (simp; done) | (simp; omega)) _) | apply below_drewN | apply Below.drew | (refine Below.alloc ?_ (by first | omega | (simp; done) | (simp; omega)) _)))
      have D17 : Below w.heap.size w W17 := Below.trans D16 (d17.mono (by omega))
      have y17_c_0 : W17.cell? ⟨W1.heap.size, 0, none⟩ = some (.slice cA cm cc) := (d17.cell (p := ⟨W1.heap.size, 0, none⟩) (show W1.heap.size < W16.heap.size by omega)).trans y16_c_0
      have y17_c_1 : W17.cell? ⟨W1.heap.size, 1, none⟩ = some (.slice cB cp cd) := (d17.cell (p := ⟨W1.heap.size, 1, none⟩) (show W1.heap.size < W16.heap.size by omega)).trans y16_c_1
      have n17_c : W1.heap.size < W17.heap.size := by omega
      have y17_a_0 : W17.cell? ⟨W4.heap.size, 0, none⟩ = some (.slice aA am ac) := (d17.cell (p := ⟨W4.heap.size, 0, none⟩) (show W4.heap.size < W16.heap.size by omega)).trans y16_a_0
      have y17_a_1 : W17.cell? ⟨W4.heap.size, 1, none⟩ = some (.slice aB ap ad) := (d17.cell (p := ⟨W4.heap.size, 1, none⟩) (show W4.heap.size < W16.heap.size by omega)).trans y16_a_1
      have n17_a : W4.heap.size < W17.heap.size := by omega
      have y17_d_0 : W17.cell? ⟨W11.heap.size, 0, none⟩ = some (.slice dA dm dc) := (d17.cell (p := ⟨W11.heap.size, 0, none⟩) (show W11.heap.size < W16.heap.size by omega)).trans y16_d_0
      have y17_d_1 : W17.cell? ⟨W11.heap.size, 1, none⟩ = some (.slice dB dp dd) := (d17.cell (p := ⟨W11.heap.size, 1, none⟩) (show W11.heap.size < W16.heap.size by omega)).trans y16_d_1
      have n17_d : W11.heap.size < W17.heap.size := by omega
      have y17_f_0 : W17.cell? ⟨W14.heap.size, 0, none⟩ = some (.int .i64 fn) := (d17.cell (p := ⟨W14.heap.size, 0, none⟩) (show W14.heap.size < W16.heap.size by omega)).trans y16_f_0
      have y17_f_1 : W17.cell? ⟨W14.heap.size, 1, none⟩ = some (.int .i64 fd) := (d17.cell (p := ⟨W14.heap.size, 1, none⟩) (show W14.heap.size < W16.heap.size by omega)).trans y16_f_1
      have n17_f : W14.heap.size < W17.heap.size := by omega
      have y17_g_0 : W17.cell? ⟨W15.heap.size, 0, none⟩ = some (.int .i64 fn) := (d17.cell (p := ⟨W15.heap.size, 0, none⟩) (show W15.heap.size < W16.heap.size by omega)).trans y16_g_0
      have y17_g_1 : W17.cell? ⟨W15.heap.size, 1, none⟩ = some (.int .i64 fd) := (d17.cell (p := ⟨W15.heap.size, 1, none⟩) (show W15.heap.size < W16.heap.size by omega)).trans y16_g_1
      have n17_g : W15.heap.size < W17.heap.size := by omega
      have q17_cA := Lib.hid (q16_cA.out.below (d17.mono (show W1.heap.size ≤ W16.heap.size by omega)))
      have q17_cB := Lib.hid (q16_cB.out.below (d17.mono (show W1.heap.size ≤ W16.heap.size by omega)))
      have q17_aA := Lib.hid (q16_aA.out.below (d17.mono (show W4.heap.size ≤ W16.heap.size by omega)))
      have q17_aB := Lib.hid (q16_aB.out.below (d17.mono (show W4.heap.size ≤ W16.heap.size by omega)))
      have q17_dA := Lib.hid (q16_dA.out.below (d17.mono (show W11.heap.size ≤ W16.heap.size by omega)))
      have q17_dB := Lib.hid (q16_dB.out.below (d17.mono (show W11.heap.size ≤ W16.heap.size by omega)))
      clear k17 y16_c_0 y16_c_1 n16_c y16_a_0 y16_a_1 n16_a y16_d_0 y16_d_1 n16_d y16_f_0 y16_f_1 n16_f y16_g_0 y16_g_1 n16_g q16_cA q16_cB q16_aA q16_aB q16_dA q16_dB
      by_cases hb0 : bad = 0
      · subst hb0
        obtain ⟨l0, l1, l2, l3, l4, l5⟩ := sto_level E_bad.out.symm
        rw [← E_lv.out] at l1 l2 l3 l4 l5
        have wlv := WalkArith.wf_i64 (n := lv) (by omega)
        have WLV := Lib.hid wlv
        obtain ⟨en, e_en⟩ : ∃ zz_, zz_ = r0_VolumeAt cl cv lv := ⟨_, rfl⟩
        rw [← e_en] at l4
        have E_en := Lib.hid e_en
        have L3 := Lib.hid l3
        have L5 := Lib.hid l5
        clear l3 l5 wlv e_en
        have hcl := q17_cA.out.1
        go_wp2_with fail
        refine (implC_VolumeAt _ _ _ cl _ _ _ cv lv _ (by omega) (Rd.mono (q17_cA.out.below (by repeat (first | assumption | exact Below.refl _ _ | (refine Below.setCell ?_ (by first | omega | (simp; done) | (simp; omega)) _) | apply below_drewN | apply Below.drew | (refine Below.alloc ?_ (by first | omega | (simp; done) | (simp; omega)) _)))) (by first | omega | (simp; done) | (simp; omega))) Hfcl.out (by omega) (Rd.mono (q17_cB.out.below (by repeat (first | assumption | exact Below.refl _ _ | (refine Below.setCell ?_ (by first | omega | (simp; done) | (simp; omega)) _) | apply below_drewN | apply Below.drew | (refine Below.alloc ?_ (by first | omega | (simp; done) | (simp; omega)) _)))) (by first | omega | (simp; done) | (simp; omega))) Hfcv.out WLV.out).mono ?_
        rintro e18 W18 ⟨rfl, b18⟩
        rw [L3.out]
        rw [← E_en.out]
        obtain ⟨k18, _⟩ := bcell b18
        have s18 : W17.heap.size + 0 ≤ W18.heap.size := by have := b18.size; (try simp at this); omega
        have d18 : Below W17.heap.size W17 W18 := (by repeat (first | assumption | exact Below.refl _ _ | (refine Below.trans ?_ (b18.mono (by first | omega | (simp; done) | (simp; omega)))) | (refine Below.setCell ?_ (by first | omega | (simp; done) | (simp; omega)) _) | apply below_drewN | apply Below.drew | (refine Below.alloc ?_ (by first | omega | (simp; done) | (simp; omega)) _)))
        have D18 : Below w.heap.size w W18 := Below.trans D17 (d18.mono (by omega))
        have y18_c_0 : W18.cell? ⟨W1.heap.size, 0, none⟩ = some (.slice cA cm cc) := (d18.cell (p := ⟨W1.heap.size, 0, none⟩) (show W1.heap.size < W17.heap.size by omega)).trans y17_c_0
        have y18_c_1 : W18.cell? ⟨W1.heap.size, 1, none⟩ = some (.slice cB cp cd) := (d18.cell (p := ⟨W1.heap.size, 1, none⟩) (show W1.heap.size < W17.heap.size by omega)).trans y17_c_1
        have n18_c : W1.heap.size < W18.heap.size := by omega
        have y18_a_0 : W18.cell? ⟨W4.heap.size, 0, none⟩ = some (.slice aA am ac) := (d18.cell (p := ⟨W4.heap.size, 0, none⟩) (show W4.heap.size < W17.heap.size by omega)).trans y17_a_0
        have y18_a_1 : W18.cell? ⟨W4.heap.size, 1, none⟩ = some (.slice aB ap ad) := (d18.cell (p := ⟨W4.heap.size, 1, none⟩) (show W4.heap.size < W17.heap.size by omega)).trans y17_a_1
        have n18_a : W4.heap.size < W18.heap.size := by omega
        have y18_d_0 : W18.cell? ⟨W11.heap.size, 0, none⟩ = some (.slice dA dm dc) := (d18.cell (p := ⟨W11.heap.size, 0, none⟩) (show W11.heap.size < W17.heap.size by omega)).trans y17_d_0
        have y18_d_1 : W18.cell? ⟨W11.heap.size, 1, none⟩ = some (.slice dB dp dd) := (d18.cell (p := ⟨W11.heap.size, 1, none⟩) (show W11.heap.size < W17.heap.size by omega)).trans y17_d_1
        have n18_d : W11.heap.size < W18.heap.size := by omega
        have y18_f_0 : W18.cell? ⟨W14.heap.size, 0, none⟩ = some (.int .i64 fn) := (d18.cell (p := ⟨W14.heap.size, 0, none⟩) (show W14.heap.size < W17.heap.size by omega)).trans y17_f_0
        have y18_f_1 : W18.cell? ⟨W14.heap.size, 1, none⟩ = some (.int .i64 fd) := (d18.cell (p := ⟨W14.heap.size, 1, none⟩) (show W14.heap.size < W17.heap.size by omega)).trans y17_f_1
        have n18_f : W14.heap.size < W18.heap.size := by omega
        have y18_g_0 : W18.cell? ⟨W15.heap.size, 0, none⟩ = some (.int .i64 fn) := (d18.cell (p := ⟨W15.heap.size, 0, none⟩) (show W15.heap.size < W17.heap.size by omega)).trans y17_g_0
        have y18_g_1 : W18.cell? ⟨W15.heap.size, 1, none⟩ = some (.int .i64 fd) := (d18.cell (p := ⟨W15.heap.size, 1, none⟩) (show W15.heap.size < W17.heap.size by omega)).trans y17_g_1
        have n18_g : W15.heap.size < W18.heap.size := by omega
        have q18_cA := Lib.hid (q17_cA.out.below (d18.mono (show W1.heap.size ≤ W17.heap.size by omega)))
        have q18_cB := Lib.hid (q17_cB.out.below (d18.mono (show W1.heap.size ≤ W17.heap.size by omega)))
        have q18_aA := Lib.hid (q17_aA.out.below (d18.mono (show W4.heap.size ≤ W17.heap.size by omega)))
        have q18_aB := Lib.hid (q17_aB.out.below (d18.mono (show W4.heap.size ≤ W17.heap.size by omega)))
        have q18_dA := Lib.hid (q17_dA.out.below (d18.mono (show W11.heap.size ≤ W17.heap.size by omega)))
        have q18_dB := Lib.hid (q17_dB.out.below (d18.mono (show W11.heap.size ≤ W17.heap.size by omega)))
        clear k18 y17_c_0 y17_c_1 n17_c y17_a_0 y17_a_1 n17_a y17_d_0 y17_d_1 n17_d y17_f_0 y17_f_1 n17_f y17_g_0 y17_g_1 n17_g q17_cA q17_cB q17_aA q17_aB q17_dA q17_dB
        obtain ⟨ab, ao, rfl, _, hc⟩ := q18_cA.out.2 (show 0 < cm by omega)
        have t0 := hc 0 (by omega)
        rw [Nat.add_zero] at t0
        have hcm0 : (0 : Int) < (cm : Int) := by omega
        have hcm1 : 0 < cm := by omega
        clear hc
        by_cases hl0 : lv = cl.getD 0 0
        · rw [← hl0] at t0
          clear hl0
          go_wp2
          go_ret
          exact ⟨rfl, (by repeat (first | assumption | exact Below.refl _ _ | (refine Below.trans ?_ (D18.mono (by first | omega | (simp; done) | (simp; omega)))) | (refine Below.setCell ?_ (by first | omega | (simp; done) | (simp; omega)) _) | apply below_drewN | apply Below.drew | (refine Below.alloc ?_ (by first | omega | (simp; done) | (simp; omega)) _)))⟩
        · obtain ⟨l6, l7⟩ := L5.out hl0
          have wl1 := Lib.hid (WalkArith.wf_i64 (n := lv - 1) (by omega))
          obtain ⟨x0, e_x0⟩ : ∃ zz_, zz_ = cl.getD 0 0 := ⟨_, rfl⟩
          rw [← e_x0] at t0 hl0
          have L6 := Lib.hid l6
          obtain ⟨le, e_le⟩ : ∃ zz_, zz_ = r0_VolumeAt cl cv (lv - 1) := ⟨_, rfl⟩
          rw [← e_le] at l7
          have E_le := Lib.hid e_le
          clear e_x0 e_le l6
          go_wp2_with fail
          refine (implC_VolumeAt _ _ _ cl _ _ _ cv (lv - 1) _ (by omega) (Rd.mono (q18_cA.out.below (by repeat (first | assumption | exact Below.refl _ _ | (refine Below.setCell ?_ (by first | omega | (simp; done) | (simp; omega)) _) | apply below_drewN | apply Below.drew | (refine Below.alloc ?_ (by first | omega | (simp; done) | (simp; omega)) _)))) (by first | omega | (simp; done) | (simp; omega))) Hfcl.out (by omega) (Rd.mono (q18_cB.out.below (by repeat (first | assumption | exact Below.refl _ _ | (refine Below.setCell ?_ (by first | omega | (simp; done) | (simp; omega)) _) | apply below_drewN | apply Below.drew | (refine Below.alloc ?_ (by first | omega | (simp; done) | (simp; omega)) _)))) (by first | omega | (simp; done) | (simp; omega))) Hfcv.out wl1.out).mono ?_
          rintro e19 W19 ⟨rfl, b19⟩
          rw [L6.out]
          rw [← E_le.out]
          obtain ⟨k19, _⟩ := bcell b19
          have s19 : W18.heap.size + 0 ≤ W19.heap.size := by have := b19.size; (try simp at this); omega
          have d19 : Below W18.heap.size W18 W19 := (by repeat (first | assumption | exact Below.refl _ _ | (refine Below.trans ?_ (b19.mono (by first | omega | (simp; done) | (simp; omega)))) | (refine Below.setCell ?_ (by first | omega | (simp; done) | (simp; omega)) _) | apply below_drewN | apply Below.drew | (refine Below.alloc ?_ (by first | omega | (simp; done) | (simp; omega)) _)))
          have D19 : Below w.heap.size w W19 := Below.trans D18 (d19.mono (by omega))
          have y19_c_0 : W19.cell? ⟨W1.heap.size, 0, none⟩ = some (.slice (some ⟨ab, ao, none⟩) cm cc) := (d19.cell (p := ⟨W1.heap.size, 0, none⟩) (show W1.heap.size < W18.heap.size by omega)).trans y18_c_0
          have y19_c_1 : W19.cell? ⟨W1.heap.size, 1, none⟩ = some (.slice cB cp cd) := (d19.cell (p := ⟨W1.heap.size, 1, none⟩) (show W1.heap.size < W18.heap.size by omega)).trans y18_c_1
          have n19_c : W1.heap.size < W19.heap.size := by omega
          have y19_a_0 : W19.cell? ⟨W4.heap.size, 0, none⟩ = some (.slice aA am ac) := (d19.cell (p := ⟨W4.heap.size, 0, none⟩) (show W4.heap.size < W18.heap.size by omega)).trans y18_a_0
          have y19_a_1 : W19.cell? ⟨W4.heap.size, 1, none⟩ = some (.slice aB ap ad) := (d19.cell (p := ⟨W4.heap.size, 1, none⟩) (show W4.heap.size < W18.heap.size by omega)).trans y18_a_1
          have n19_a : W4.heap.size < W19.heap.size := by omega
          have y19_d_0 : W19.cell? ⟨W11.heap.size, 0, none⟩ = some (.slice dA dm dc) := (d19.cell (p := ⟨W11.heap.size, 0, none⟩) (show W11.heap.size < W18.heap.size by omega)).trans y18_d_0
          have y19_d_1 : W19.cell? ⟨W11.heap.size, 1, none⟩ = some (.slice dB dp dd) := (d19.cell (p := ⟨W11.heap.size, 1, none⟩) (show W11.heap.size < W18.heap.size by omega)).trans y18_d_1
          have n19_d : W11.heap.size < W19.heap.size := by omega
          have y19_f_0 : W19.cell? ⟨W14.heap.size, 0, none⟩ = some (.int .i64 fn) := (d19.cell (p := ⟨W14.heap.size, 0, none⟩) (show W14.heap.size < W18.heap.size by omega)).trans y18_f_0
          have y19_f_1 : W19.cell? ⟨W14.heap.size, 1, none⟩ = some (.int .i64 fd) := (d19.cell (p := ⟨W14.heap.size, 1, none⟩) (show W14.heap.size < W18.heap.size by omega)).trans y18_f_1
          have n19_f : W14.heap.size < W19.heap.size := by omega
          have y19_g_0 : W19.cell? ⟨W15.heap.size, 0, none⟩ = some (.int .i64 fn) := (d19.cell (p := ⟨W15.heap.size, 0, none⟩) (show W15.heap.size < W18.heap.size by omega)).trans y18_g_0
          have y19_g_1 : W19.cell? ⟨W15.heap.size, 1, none⟩ = some (.int .i64 fd) := (d19.cell (p := ⟨W15.heap.size, 1, none⟩) (show W15.heap.size < W18.heap.size by omega)).trans y18_g_1
          have n19_g : W15.heap.size < W19.heap.size := by omega
          have q19_cA := Lib.hid (q18_cA.out.below (d19.mono (show W1.heap.size ≤ W18.heap.size by omega)))
          have q19_cB := Lib.hid (q18_cB.out.below (d19.mono (show W1.heap.size ≤ W18.heap.size by omega)))
          have q19_aA := Lib.hid (q18_aA.out.below (d19.mono (show W4.heap.size ≤ W18.heap.size by omega)))
          have q19_aB := Lib.hid (q18_aB.out.below (d19.mono (show W4.heap.size ≤ W18.heap.size by omega)))
          have q19_dA := Lib.hid (q18_dA.out.below (d19.mono (show W11.heap.size ≤ W18.heap.size by omega)))
          have q19_dB := Lib.hid (q18_dB.out.below (d19.mono (show W11.heap.size ≤ W18.heap.size by omega)))
          clear k19 y18_c_0 y18_c_1 n18_c y18_a_0 y18_a_1 n18_a y18_d_0 y18_d_1 n18_d y18_f_0 y18_f_1 n18_f y18_g_0 y18_g_1 n18_g q18_cA q18_cB q18_aA q18_aB q18_dA q18_dB
          go_wp2
          go_ret
          exact ⟨ret_bool (by first | rfl | (simp; done) | (simp; omega)), (by repeat (first | assumption | exact Below.refl _ _ | (refine Below.trans ?_ (D19.mono (by first | omega | (simp; done) | (simp; omega)))) | (refine Below.setCell ?_ (by first | omega | (simp; done) | (simp; omega)) _) | apply below_drewN | apply Below.drew | (refine Below.alloc ?_ (by first | omega | (simp; done) | (simp; omega)) _)))⟩
      · go_wp2
        go_ret
        exact ⟨rfl, (by repeat (first | assumption | exact Below.refl _ _ | (refine Below.trans ?_ (D17.mono (by first | omega | (simp; done) | (simp; omega)))) | (refine Below.setCell ?_ (by first | omega | (simp; done) | (simp; omega)) _) | apply below_drewN | apply Below.drew | (refine Below.alloc ?_ (by first | omega | (simp; done) | (simp; omega)) _)))⟩
    · skip
      by_cases hb0 : bad = 0
      · subst hb0
        obtain ⟨l0, l1, l2, l3, l4, l5⟩ := sto_level E_bad.out.symm
        rw [← E_lv.out] at l1 l2 l3 l4 l5
        have wlv := WalkArith.wf_i64 (n := lv) (by omega)
        have WLV := Lib.hid wlv
        obtain ⟨en, e_en⟩ : ∃ zz_, zz_ = r0_VolumeAt cl cv lv := ⟨_, rfl⟩
        rw [← e_en] at l4
        have E_en := Lib.hid e_en
        have L3 := Lib.hid l3
        have L5 := Lib.hid l5
        clear l3 l5 wlv e_en
        have hcl := q15_cA.out.1
        go_wp2_with fail
        refine (implC_VolumeAt _ _ _ cl _ _ _ cv lv _ (by omega) (Rd.mono (q15_cA.out.below (by repeat (first | assumption | exact Below.refl _ _ | (refine Below.setCell ?_ (by first | omega | (simp; done) | (simp; omega)) _) | apply below_drewN | apply Below.drew | (refine Below.alloc ?_ (by first | omega | (simp; done) | (simp; omega)) _)))) (by first | omega | (simp; done) | (simp; omega))) Hfcl.out (by omega) (Rd.mono (q15_cB.out.below (by repeat (first | assumption | exact Below.refl _ _ | (refine Below.setCell ?_ (by first | omega | (simp; done) | (simp; omega)) _) | apply below_drewN | apply Below.drew | (refine Below.alloc ?_ (by first | omega | (simp; done) | (simp; omega)) _)))) (by first | omega | (simp; done) | (simp; omega))) Hfcv.out WLV.out).mono ?_
        rintro e16 W16 ⟨rfl, b16⟩
        rw [L3.out]
        rw [← E_en.out]
        obtain ⟨k16, _⟩ := bcell b16
        have s16 : W15.heap.size + 1 ≤ W16.heap.size := by have := b16.size; (try simp at this); omega
        have d16 : Below W15.heap.size W15 W16 := (by repeat (first | assumption | exact Below.refl _ _ | (refine Below.trans ?_ (b16.mono (by first | omega | (simp; done) | (simp; omega)))) | (refine Below.setCell ?_ (by first | omega | (simp; done) | (simp; omega)) _) | apply below_drewN | apply Below.drew | (refine Below.alloc ?_ (by first | omega | (simp; done) | (simp; omega)) _)))
        have D16 : Below w.heap.size w W16 := Below.trans D15 (d16.mono (by omega))
        have y16_c_0 : W16.cell? ⟨W1.heap.size, 0, none⟩ = some (.slice cA cm cc) := (d16.cell (p := ⟨W1.heap.size, 0, none⟩) (show W1.heap.size < W15.heap.size by omega)).trans y15_c_0
        have y16_c_1 : W16.cell? ⟨W1.heap.size, 1, none⟩ = some (.slice cB cp cd) := (d16.cell (p := ⟨W1.heap.size, 1, none⟩) (show W1.heap.size < W15.heap.size by omega)).trans y15_c_1
        have n16_c : W1.heap.size < W16.heap.size := by omega
        have y16_a_0 : W16.cell? ⟨W4.heap.size, 0, none⟩ = some (.slice aA am ac) := (d16.cell (p := ⟨W4.heap.size, 0, none⟩) (show W4.heap.size < W15.heap.size by omega)).trans y15_a_0
        have y16_a_1 : W16.cell? ⟨W4.heap.size, 1, none⟩ = some (.slice aB ap ad) := (d16.cell (p := ⟨W4.heap.size, 1, none⟩) (show W4.heap.size < W15.heap.size by omega)).trans y15_a_1
        have n16_a : W4.heap.size < W16.heap.size := by omega
        have y16_d_0 : W16.cell? ⟨W11.heap.size, 0, none⟩ = some (.slice dA dm dc) := (d16.cell (p := ⟨W11.heap.size, 0, none⟩) (show W11.heap.size < W15.heap.size by omega)).trans y15_d_0
        have y16_d_1 : W16.cell? ⟨W11.heap.size, 1, none⟩ = some (.slice dB dp dd) := (d16.cell (p := ⟨W11.heap.size, 1, none⟩) (show W11.heap.size < W15.heap.size by omega)).trans y15_d_1
        have n16_d : W11.heap.size < W16.heap.size := by omega
        have y16_f_0 : W16.cell? ⟨W14.heap.size, 0, none⟩ = some (.int .i64 fn) := (d16.cell (p := ⟨W14.heap.size, 0, none⟩) (show W14.heap.size < W15.heap.size by omega)).trans y15_f_0
        have y16_f_1 : W16.cell? ⟨W14.heap.size, 1, none⟩ = some (.int .i64 fd) := (d16.cell (p := ⟨W14.heap.size, 1, none⟩) (show W14.heap.size < W15.heap.size by omega)).trans y15_f_1
        have n16_f : W14.heap.size < W16.heap.size := by omega
        have y16_g_0 : W16.cell? ⟨W15.heap.size, 0, none⟩ = some (.int .i64 fn) := by rw [k16 _ _ (by first | omega | (simp; done) | (simp; omega))]; first | (simp; done) | go_simp
        have y16_g_1 : W16.cell? ⟨W15.heap.size, 1, none⟩ = some (.int .i64 fd) := by rw [k16 _ _ (by first | omega | (simp; done) | (simp; omega))]; first | (simp; done) | go_simp
        have n16_g : W15.heap.size < W16.heap.size := by omega
        have q16_cA := Lib.hid (q15_cA.out.below (d16.mono (show W1.heap.size ≤ W15.heap.size by omega)))
        have q16_cB := Lib.hid (q15_cB.out.below (d16.mono (show W1.heap.size ≤ W15.heap.size by omega)))
        have q16_aA := Lib.hid (q15_aA.out.below (d16.mono (show W4.heap.size ≤ W15.heap.size by omega)))
        have q16_aB := Lib.hid (q15_aB.out.below (d16.mono (show W4.heap.size ≤ W15.heap.size by omega)))
        have q16_dA := Lib.hid (q15_dA.out.below (d16.mono (show W11.heap.size ≤ W15.heap.size by omega)))
        have q16_dB := Lib.hid (q15_dB.out.below (d16.mono (show W11.heap.size ≤ W15.heap.size by omega)))
        clear k16 y15_c_0 y15_c_1 n15_c y15_a_0 y15_a_1 n15_a y15_d_0 y15_d_1 n15_d y15_f_0 y15_f_1 n15_f q15_cA q15_cB q15_aA q15_aB q15_dA q15_dB
        obtain ⟨ab, ao, rfl, _, hc⟩ := q16_cA.out.2 (show 0 < cm by omega)
        have t0 := hc 0 (by omega)
        rw [Nat.add_zero] at t0
        have hcm0 : (0 : Int) < (cm : Int) := by omega
        have hcm1 : 0 < cm := by omega
        clear hc
        by_cases hl0 : lv = cl.getD 0 0
        · rw [← hl0] at t0
          clear hl0
          go_wp2
          go_ret
          exact ⟨rfl, (by repeat (first | assumption | exact Below.refl _ _ | (refine Below.trans ?_ (D16.mono (by first | omega | (simp; done) | (simp; omega)))) | (refine Below.setCell ?_ (by first | omega | (simp; done) | (simp; omega)) _) | apply below_drewN | apply Below.drew | (refine Below.alloc ?_ (by first | omega | (simp; done) | (simp; omega)) _)))⟩
        · obtain ⟨l6, l7⟩ := L5.out hl0
          have wl1 := Lib.hid (WalkArith.wf_i64 (n := lv - 1) (by omega))
          obtain ⟨x0, e_x0⟩ : ∃ zz_, zz_ = cl.getD 0 0 := ⟨_, rfl⟩
          rw [← e_x0] at t0 hl0
          have L6 := Lib.hid l6
          obtain ⟨le, e_le⟩ : ∃ zz_, zz_ = r0_VolumeAt cl cv (lv - 1) := ⟨_, rfl⟩
          rw [← e_le] at l7
          have E_le := Lib.hid e_le
          clear e_x0 e_le l6
          go_wp2_with fail
          refine (implC_VolumeAt _ _ _ cl _ _ _ cv (lv - 1) _ (by omega) (Rd.mono (q16_cA.out.below (by repeat (first | assumption | exact Below.refl _ _ | (refine Below.setCell ?_ (by first | omega | (simp; done) | (simp; omega)) _) | apply below_drewN | apply Below.drew | (refine Below.alloc ?_ (by first | omega | (simp; done) | (simp; omega)) _)))) (by first | omega | (simp; done) | (simp; omega))) Hfcl.out (by omega) (Rd.mono (q16_cB.out.below (by repeat (first | assumption | exact Below.refl _ _ | (refine Below.setCell ?_ (by first | omega | (simp; done) | (simp; omega)) _) | apply below_drewN | apply Below.drew | (refine Below.alloc ?_ (by first | omega | (simp; done) | (simp; omega)) _)))) (by first | omega | (simp; done) | (simp; omega))) Hfcv.out wl1.out).mono ?_
          rintro e17 W17 ⟨rfl, b17⟩
          rw [L6.out]
          rw [← E_le.out]
          obtain ⟨k17, _⟩ := bcell b17
          have s17 : W16.heap.size + 0 ≤ W17.heap.size := by have := b17.size; (try simp at this); omega
          have d17 : Below W16.heap.size W16 W17 := (by repeat (first | assumption | exact Below.refl _ _ | (refine Below.trans ?_ (b17.mono (by first | omega | (simp; done) | (simp; omega)))) | (refine Below.setCell ?_ (by first | omega | (simp; done) | (simp; omega)) _) | apply below_drewN | apply Below.drew | (refine Below.alloc ?_ (by first | omega | (simp; done) | (simp; omega)) _)))
          have D17 : Below w.heap.size w W17 := Below.trans D16 (d17.mono (by omega))
          have y17_c_0 : W17.cell? ⟨W1.heap.size, 0, none⟩ = some (.slice (some ⟨ab, ao, none⟩) cm cc) := (d17.cell (p := ⟨W1.heap.size, 0, none⟩) (show W1.heap.size < W16.heap.size by omega)).trans y16_c_0
          have y17_c_1 : W17.cell? ⟨W1.heap.size, 1, none⟩ = some (.slice cB cp cd) := (d17.cell (p := ⟨W1.heap.size, 1, none⟩) (show W1.heap.size < W16.heap.size by omega)).trans y16_c_1
          have n17_c : W1.heap.size < W17.heap.size := by omega
          have y17_a_0 : W17.cell? ⟨W4.heap.size, 0, none⟩ = some (.slice aA am ac) := (d17.cell (p := ⟨W4.heap.size, 0, none⟩) (show W4.heap.size < W16.heap.size by omega)).trans y16_a_0
          have y17_a_1 : W17.cell? ⟨W4.heap.size, 1, none⟩ = some (.slice aB ap ad) := (d17.cell (p := ⟨W4.heap.size, 1, none⟩) (show W4.heap.size < W16.heap.size by omega)).trans y16_a_1
          have n17_a : W4.heap.size < W17.heap.size := by omega
          have y17_d_0 : W17.cell? ⟨W11.heap.size, 0, none⟩ = some (.slice dA dm dc) := (d17.cell (p := ⟨W11.heap.size, 0, none⟩) (show W11.heap.size < W16.heap.size by omega)).trans y16_d_0
          have y17_d_1 : W17.cell? ⟨W11.heap.size, 1, none⟩ = some (.slice dB dp dd) := (d17.cell (p := ⟨W11.heap.size, 1, none⟩) (show W11.heap.size < W16.heap.size by omega)).trans y16_d_1
          have n17_d : W11.heap.size < W17.heap.size := by omega
          have y17_f_0 : W17.cell? ⟨W14.heap.size, 0, none⟩ = some (.int .i64 fn) := (d17.cell (p := ⟨W14.heap.size, 0, none⟩) (show W14.heap.size < W16.heap.size by omega)).trans y16_f_0
          have y17_f_1 : W17.cell? ⟨W14.heap.size, 1, none⟩ = some (.int .i64 fd) := (d17.cell (p := ⟨W14.heap.size, 1, none⟩) (show W14.heap.size < W16.heap.size by omega)).trans y16_f_1
          have n17_f : W14.heap.size < W17.heap.size := by omega
          have y17_g_0 : W17.cell? ⟨W15.heap.size, 0, none⟩ = some (.int .i64 fn) := (d17.cell (p := ⟨W15.heap.size, 0, none⟩) (show W15.heap.size < W16.heap.size by omega)).trans y16_g_0
          have y17_g_1 : W17.cell? ⟨W15.heap.size, 1, none⟩ = some (.int .i64 fd) := (d17.cell (p := ⟨W15.heap.size, 1, none⟩) (show W15.heap.size < W16.heap.size by omega)).trans y16_g_1
          have n17_g : W15.heap.size < W17.heap.size := by omega
          have q17_cA := Lib.hid (q16_cA.out.below (d17.mono (show W1.heap.size ≤ W16.heap.size by omega)))
          have q17_cB := Lib.hid (q16_cB.out.below (d17.mono (show W1.heap.size ≤ W16.heap.size by omega)))
          have q17_aA := Lib.hid (q16_aA.out.below (d17.mono (show W4.heap.size ≤ W16.heap.size by omega)))
          have q17_aB := Lib.hid (q16_aB.out.below (d17.mono (show W4.heap.size ≤ W16.heap.size by omega)))
          have q17_dA := Lib.hid (q16_dA.out.below (d17.mono (show W11.heap.size ≤ W16.heap.size by omega)))
          have q17_dB := Lib.hid (q16_dB.out.below (d17.mono (show W11.heap.size ≤ W16.heap.size by omega)))
          clear k17 y16_c_0 y16_c_1 n16_c y16_a_0 y16_a_1 n16_a y16_d_0 y16_d_1 n16_d y16_f_0 y16_f_1 n16_f y16_g_0 y16_g_1 n16_g q16_cA q16_cB q16_aA q16_aB q16_dA q16_dB
          go_wp2
          go_ret
          exact ⟨ret_bool (by first | rfl | (simp; done) | (simp; omega)), (by repeat (first | assumption | exact Below.refl _ _ | (refine Below.trans ?_ (D17.mono (by first | omega | (simp; done) | (simp; omega)))) | (refine Below.setCell ?_ (by first | omega | (simp; done) | (simp; omega)) _) | apply below_drewN | apply Below.drew | (refine Below.alloc ?_ (by first | omega | (simp; done) | (simp; omega)) _)))⟩
      · go_wp2
        go_ret
        exact ⟨rfl, (by repeat (first | assumption | exact Below.refl _ _ | (refine Below.trans ?_ (D15.mono (by first | omega | (simp; done) | (simp; omega)))) | (refine Below.setCell ?_ (by first | omega | (simp; done) | (simp; omega)) _) | apply below_drewN | apply Below.drew | (refine Below.alloc ?_ (by first | omega | (simp; done) | (simp; omega)) _)))⟩
  · skip
    by_cases h10 : one = 0
    · subst h10
      obtain ⟨m0, m1, m2, m3, m4, ⟨m5, m6⟩, m7, m8⟩ := sto_add E_one.out.symm
      rw [← E_to.out] at m0 m1 m3 m4
      have wto := Lib.hid (WalkArith.wf_i64 (n := to) (by omega))
      obtain ⟨be, e_be⟩ : ∃ zz_, zz_ = r0_VolumeAt al av fr := ⟨_, rfl⟩
      obtain ⟨af, e_af⟩ : ∃ zz_, zz_ = r0_VolumeAt al av to := ⟨_, rfl⟩
      rw [← e_be] at m4 m5 m6
      rw [← e_af] at m4
      have E_be := Lib.hid e_be
      have E_af := Lib.hid e_af
      have M2 := Lib.hid m2
      have M3 := Lib.hid m3
      clear e_be e_af m2 m3
      go_wp2_with fail
      refine (implC_VolumeAt _ _ _ al _ _ _ av fr _ (by omega) (Rd.mono (q15_aA.out.below (by repeat (first | assumption | exact Below.refl _ _ | (refine Below.setCell ?_ (by first | omega | (simp; done) | (simp; omega)) _) | apply below_drewN | apply Below.drew | (refine Below.alloc ?_ (by first | omega | (simp; done) | (simp; omega)) _)))) (by first | omega | (simp; done) | (simp; omega))) Hfal.out (by omega) (Rd.mono (q15_aB.out.below (by repeat (first | assumption | exact Below.refl _ _ | (refine Below.setCell ?_ (by first | omega | (simp; done) | (simp; omega)) _) | apply below_drewN | apply Below.drew | (refine Below.alloc ?_ (by first | omega | (simp; done) | (simp; omega)) _)))) (by first | omega | (simp; done) | (simp; omega))) Hfav.out wfr).mono ?_
      rintro e16 W16 ⟨rfl, b16⟩
      rw [M2.out]
      rw [← E_be.out]
      obtain ⟨k16, _⟩ := bcell b16
      have s16 : W15.heap.size + 1 ≤ W16.heap.size := by have := b16.size; (try simp at this); omega
      have d16 : Below W15.heap.size W15 W16 := (by repeat (first | assumption | exact Below.refl _ _ | (refine Below.trans ?_ (b16.mono (by first | omega | (simp; done) | (simp; omega)))) | (refine Below.setCell ?_ (by first | omega | (simp; done) | (simp; omega)) _) | apply below_drewN | apply Below.drew | (refine Below.alloc ?_ (by first | omega | (simp; done) | (simp; omega)) _)))
      have D16 : Below w.heap.size w W16 := Below.trans D15 (d16.mono (by omega))
      have y16_c_0 : W16.cell? ⟨W1.heap.size, 0, none⟩ = some (.slice cA cm cc) := (d16.cell (p := ⟨W1.heap.size, 0, none⟩) (show W1.heap.size < W15.heap.size by omega)).trans y15_c_0
      have y16_c_1 : W16.cell? ⟨W1.heap.size, 1, none⟩ = some (.slice cB cp cd) := (d16.cell (p := ⟨W1.heap.size, 1, none⟩) (show W1.heap.size < W15.heap.size by omega)).trans y15_c_1
      have n16_c : W1.heap.size < W16.heap.size := by omega
      have y16_a_0 : W16.cell? ⟨W4.heap.size, 0, none⟩ = some (.slice aA am ac) := (d16.cell (p := ⟨W4.heap.size, 0, none⟩) (show W4.heap.size < W15.heap.size by omega)).trans y15_a_0
      have y16_a_1 : W16.cell? ⟨W4.heap.size, 1, none⟩ = some (.slice aB ap ad) := (d16.cell (p := ⟨W4.heap.size, 1, none⟩) (show W4.heap.size < W15.heap.size by omega)).trans y15_a_1
      have n16_a : W4.heap.size < W16.heap.size := by omega
      have y16_d_0 : W16.cell? ⟨W11.heap.size, 0, none⟩ = some (.slice dA dm dc) := (d16.cell (p := ⟨W11.heap.size, 0, none⟩) (show W11.heap.size < W15.heap.size by omega)).trans y15_d_0
      have y16_d_1 : W16.cell? ⟨W11.heap.size, 1, none⟩ = some (.slice dB dp dd) := (d16.cell (p := ⟨W11.heap.size, 1, none⟩) (show W11.heap.size < W15.heap.size by omega)).trans y15_d_1
      have n16_d : W11.heap.size < W16.heap.size := by omega
      have y16_f_0 : W16.cell? ⟨W14.heap.size, 0, none⟩ = some (.int .i64 fn) := (d16.cell (p := ⟨W14.heap.size, 0, none⟩) (show W14.heap.size < W15.heap.size by omega)).trans y15_f_0
      have y16_f_1 : W16.cell? ⟨W14.heap.size, 1, none⟩ = some (.int .i64 fd) := (d16.cell (p := ⟨W14.heap.size, 1, none⟩) (show W14.heap.size < W15.heap.size by omega)).trans y15_f_1
      have n16_f : W14.heap.size < W16.heap.size := by omega
      have y16_g_0 : W16.cell? ⟨W15.heap.size, 0, none⟩ = some (.int .i64 fn) := by rw [k16 _ _ (by first | omega | (simp; done) | (simp; omega))]; first | (simp; done) | go_simp
      have y16_g_1 : W16.cell? ⟨W15.heap.size, 1, none⟩ = some (.int .i64 fd) := by rw [k16 _ _ (by first | omega | (simp; done) | (simp; omega))]; first | (simp; done) | go_simp
      have n16_g : W15.heap.size < W16.heap.size := by omega
      have q16_cA := Lib.hid (q15_cA.out.below (d16.mono (show W1.heap.size ≤ W15.heap.size by omega)))
      have q16_cB := Lib.hid (q15_cB.out.below (d16.mono (show W1.heap.size ≤ W15.heap.size by omega)))
      have q16_aA := Lib.hid (q15_aA.out.below (d16.mono (show W4.heap.size ≤ W15.heap.size by omega)))
      have q16_aB := Lib.hid (q15_aB.out.below (d16.mono (show W4.heap.size ≤ W15.heap.size by omega)))
      have q16_dA := Lib.hid (q15_dA.out.below (d16.mono (show W11.heap.size ≤ W15.heap.size by omega)))
      have q16_dB := Lib.hid (q15_dB.out.below (d16.mono (show W11.heap.size ≤ W15.heap.size by omega)))
      clear k16 y15_c_0 y15_c_1 n15_c y15_a_0 y15_a_1 n15_a y15_d_0 y15_d_1 n15_d y15_f_0 y15_f_1 n15_f q15_cA q15_cB q15_aA q15_aB q15_dA q15_dB
      go_wp2_with fail
      refine (implC_VolumeAt _ _ _ al _ _ _ av to _ (by omega) (Rd.mono (q16_aA.out.below (by repeat (first | assumption | exact Below.refl _ _ | (refine Below.setCell ?_ (by first | omega | (simp; done) | (simp; omega)) _) | apply below_drewN | apply Below.drew | (refine Below.alloc ?_ (by first | omega | (simp; done) | (simp; omega)) _)))) (by first | omega | (simp; done) | (simp; omega))) Hfal.out (by omega) (Rd.mono (q16_aB.out.below (by repeat (first | assumption | exact Below.refl _ _ | (refine Below.setCell ?_ (by first | omega | (simp; done) | (simp; omega)) _) | apply below_drewN | apply Below.drew | (refine Below.alloc ?_ (by first | omega | (simp; done) | (simp; omega)) _)))) (by first | omega | (simp; done) | (simp; omega))) Hfav.out wto.out).mono ?_
      rintro e17 W17 ⟨rfl, b17⟩
      rw [M3.out]
      rw [← E_af.out]
      obtain ⟨k17, _⟩ := bcell b17
      have s17 : W16.heap.size + 0 ≤ W17.heap.size := by have := b17.size; (try simp at this); omega
      have d17 : Below W16.heap.size W16 W17 := (by repeat (first | assumption | exact Below.refl _ _ | (refine Below.trans ?_ (b17.mono (by first | omega | (simp; done) | (simp; omega)))) | (refine Below.setCell ?_ (by first | omega | (simp; done) | (simp; omega)) _) | apply below_drewN | apply Below.drew | (refine Below.alloc ?_ (by first | omega | (simp; done) | (simp; omega)) _)))
      have D17 : Below w.heap.size w W17 := Below.trans D16 (d17.mono (by omega))
      have y17_c_0 : W17.cell? ⟨W1.heap.size, 0, none⟩ = some (.slice cA cm cc) := (d17.cell (p := ⟨W1.heap.size, 0, none⟩) (show W1.heap.size < W16.heap.size by omega)).trans y16_c_0
      have y17_c_1 : W17.cell? ⟨W1.heap.size, 1, none⟩ = some (.slice cB cp cd) := (d17.cell (p := ⟨W1.heap.size, 1, none⟩) (show W1.heap.size < W16.heap.size by omega)).trans y16_c_1
      have n17_c : W1.heap.size < W17.heap.size := by omega
      have y17_a_0 : W17.cell? ⟨W4.heap.size, 0, none⟩ = some (.slice aA am ac) := (d17.cell (p := ⟨W4.heap.size, 0, none⟩) (show W4.heap.size < W16.heap.size by omega)).trans y16_a_0
      have y17_a_1 : W17.cell? ⟨W4.heap.size, 1, none⟩ = some (.slice aB ap ad) := (d17.cell (p := ⟨W4.heap.size, 1, none⟩) (show W4.heap.size < W16.heap.size by omega)).trans y16_a_1
      have n17_a : W4.heap.size < W17.heap.size := by omega
      have y17_d_0 : W17.cell? ⟨W11.heap.size, 0, none⟩ = some (.slice dA dm dc) := (d17.cell (p := ⟨W11.heap.size, 0, none⟩) (show W11.heap.size < W16.heap.size by omega)).trans y16_d_0
      have y17_d_1 : W17.cell? ⟨W11.heap.size, 1, none⟩ = some (.slice dB dp dd) := (d17.cell (p := ⟨W11.heap.size, 1, none⟩) (show W11.heap.size < W16.heap.size by omega)).trans y16_d_1
      have n17_d : W11.heap.size < W17.heap.size := by omega
      have y17_f_0 : W17.cell? ⟨W14.heap.size, 0, none⟩ = some (.int .i64 fn) := (d17.cell (p := ⟨W14.heap.size, 0, none⟩) (show W14.heap.size < W16.heap.size by omega)).trans y16_f_0
      have y17_f_1 : W17.cell? ⟨W14.heap.size, 1, none⟩ = some (.int .i64 fd) := (d17.cell (p := ⟨W14.heap.size, 1, none⟩) (show W14.heap.size < W16.heap.size by omega)).trans y16_f_1
      have n17_f : W14.heap.size < W17.heap.size := by omega
      have y17_g_0 : W17.cell? ⟨W15.heap.size, 0, none⟩ = some (.int .i64 fn) := (d17.cell (p := ⟨W15.heap.size, 0, none⟩) (show W15.heap.size < W16.heap.size by omega)).trans y16_g_0
      have y17_g_1 : W17.cell? ⟨W15.heap.size, 1, none⟩ = some (.int .i64 fd) := (d17.cell (p := ⟨W15.heap.size, 1, none⟩) (show W15.heap.size < W16.heap.size by omega)).trans y16_g_1
      have n17_g : W15.heap.size < W17.heap.size := by omega
      have q17_cA := Lib.hid (q16_cA.out.below (d17.mono (show W1.heap.size ≤ W16.heap.size by omega)))
      have q17_cB := Lib.hid (q16_cB.out.below (d17.mono (show W1.heap.size ≤ W16.heap.size by omega)))
      have q17_aA := Lib.hid (q16_aA.out.below (d17.mono (show W4.heap.size ≤ W16.heap.size by omega)))
      have q17_aB := Lib.hid (q16_aB.out.below (d17.mono (show W4.heap.size ≤ W16.heap.size by omega)))
      have q17_dA := Lib.hid (q16_dA.out.below (d17.mono (show W11.heap.size ≤ W16.heap.size by omega)))
      have q17_dB := Lib.hid (q16_dB.out.below (d17.mono (show W11.heap.size ≤ W16.heap.size by omega)))
      clear k17 y16_c_0 y16_c_1 n16_c y16_a_0 y16_a_1 n16_a y16_d_0 y16_d_1 n16_d y16_f_0 y16_f_1 n16_f y16_g_0 y16_g_1 n16_g q16_cA q16_cB q16_aA q16_aB q16_dA q16_dB
      by_cases hb0 : bad = 0
      · subst hb0
        obtain ⟨l0, l1, l2, l3, l4, l5⟩ := sto_level E_bad.out.symm
        rw [← E_lv.out] at l1 l2 l3 l4 l5
        have wlv := WalkArith.wf_i64 (n := lv) (by omega)
        have WLV := Lib.hid wlv
        obtain ⟨en, e_en⟩ : ∃ zz_, zz_ = r0_VolumeAt cl cv lv := ⟨_, rfl⟩
        rw [← e_en] at l4
        have E_en := Lib.hid e_en
        have L3 := Lib.hid l3
        have L5 := Lib.hid l5
        clear l3 l5 wlv e_en
        have hcl := q17_cA.out.1
        go_wp2_with fail
        refine (implC_VolumeAt _ _ _ cl _ _ _ cv lv _ (by omega) (Rd.mono (q17_cA.out.below (by repeat (first | assumption | exact Below.refl _ _ | (refine Below.setCell ?_ (by first | omega | (simp; done) | (simp; omega)) _) | apply below_drewN | apply Below.drew | (refine Below.alloc ?_ (by first | omega | (simp; done) | (simp; omega)) _)))) (by first | omega | (simp; done) | (simp; omega))) Hfcl.out (by omega) (Rd.mono (q17_cB.out.below (by repeat (first | assumption | exact Below.refl _ _ | (refine Below.setCell ?_ (by first | omega | (simp; done) | (simp; omega)) _) | apply below_drewN | apply Below.drew | (refine Below.alloc ?_ (by first | omega | (simp; done) | (simp; omega)) _)))) (by first | omega | (simp; done) | (simp; omega))) Hfcv.out WLV.out).mono ?_
        rintro e18 W18 ⟨rfl, b18⟩
        rw [L3.out]
        rw [← E_en.out]
        obtain ⟨k18, _⟩ := bcell b18
        have s18 : W17.heap.size + 0 ≤ W18.heap.size := by have := b18.size; (try simp at this); omega
        have d18 : Below W17.heap.size W17 W18 := (by repeat (first | assumption | exact Below.refl _ _ | (refine Below.trans ?_ (b18.mono (by first | omega | (simp; done) | (simp; omega)))) | (refine Below.setCell ?_ (by first | omega | (simp; done) | (simp; omega)) _) | apply below_drewN | apply Below.drew | (refine Below.alloc ?_ (by first | omega | (simp; done) | (simp; omega)) _)))
        have D18 : Below w.heap.size w W18 := Below.trans D17 (d18.mono (by omega))
        have y18_c_0 : W18.cell? ⟨W1.heap.size, 0, none⟩ = some (.slice cA cm cc) := (d18.cell (p := ⟨W1.heap.size, 0, none⟩) (show W1.heap.size < W17.heap.size by omega)).trans y17_c_0
        have y18_c_1 : W18.cell? ⟨W1.heap.size, 1, none⟩ = some (.slice cB cp cd) := (d18.cell (p := ⟨W1.heap.size, 1, none⟩) (show W1.heap.size < W17.heap.size by omega)).trans y17_c_1
        have n18_c : W1.heap.size < W18.heap.size := by omega
        have y18_a_0 : W18.cell? ⟨W4.heap.size, 0, none⟩ = some (.slice aA am ac) := (d18.cell (p := ⟨W4.heap.size, 0, none⟩) (show W4.heap.size < W17.heap.size by omega)).trans y17_a_0
        have y18_a_1 : W18.cell? ⟨W4.heap.size, 1, none⟩ = some (.slice aB ap ad) := (d18.cell (p := ⟨W4.heap.size, 1, none⟩) (show W4.heap.size < W17.heap.size by omega)).trans y17_a_1
        have n18_a : W4.heap.size < W18.heap.size := by omega
        have y18_d_0 : W18.cell? ⟨W11.heap.size, 0, none⟩ = some (.slice dA dm dc) := (d18.cell (p := ⟨W11.heap.size, 0, none⟩) (show W11.heap.size < W17.heap.size by omega)).trans y17_d_0
        have y18_d_1 : W18.cell? ⟨W11.heap.size, 1, none⟩ = some (.slice dB dp dd) := (d18.cell (p := ⟨W11.heap.size, 1, none⟩) (show W11.heap.size < W17.heap.size by omega)).trans y17_d_1
        have n18_d : W11.heap.size < W18.heap.size := by omega
        have y18_f_0 : W18.cell? ⟨W14.heap.size, 0, none⟩ = some (.int .i64 fn) := (d18.cell (p := ⟨W14.heap.size, 0, none⟩) (show W14.heap.size < W17.heap.size by omega)).trans y17_f_0
        have y18_f_1 : W18.cell? ⟨W14.heap.size, 1, none⟩ = some (.int .i64 fd) := (d18.cell (p := ⟨W14.heap.size, 1, none⟩) (show W14.heap.size < W17.heap.size by omega)).trans y17_f_1
        have n18_f : W14.heap.size < W18.heap.size := by omega
        have y18_g_0 : W18.cell? ⟨W15.heap.size, 0, none⟩ = some (.int .i64 fn) := (d18.cell (p := ⟨W15.heap.size, 0, none⟩) (show W15.heap.size < W17.heap.size by omega)).trans y17_g_0
        have y18_g_1 : W18.cell? ⟨W15.heap.size, 1, none⟩ = some (.int .i64 fd) := (d18.cell (p := ⟨W15.heap.size, 1, none⟩) (show W15.heap.size < W17.heap.size by omega)).trans y17_g_1
        have n18_g : W15.heap.size < W18.heap.size := by omega
        have q18_cA := Lib.hid (q17_cA.out.below (d18.mono (show W1.heap.size ≤ W17.heap.size by omega)))
        have q18_cB := Lib.hid (q17_cB.out.below (d18.mono (show W1.heap.size ≤ W17.heap.size by omega)))
        have q18_aA := Lib.hid (q17_aA.out.below (d18.mono (show W4.heap.size ≤ W17.heap.size by omega)))
        have q18_aB := Lib.hid (q17_aB.out.below (d18.mono (show W4.heap.size ≤ W17.heap.size by omega)))
        have q18_dA := Lib.hid (q17_dA.out.below (d18.mono (show W11.heap.size ≤ W17.heap.size by omega)))
        have q18_dB := Lib.hid (q17_dB.out.below (d18.mono (show W11.heap.size ≤ W17.heap.size by omega)))
        clear k18 y17_c_0 y17_c_1 n17_c y17_a_0 y17_a_1 n17_a y17_d_0 y17_d_1 n17_d y17_f_0 y17_f_1 n17_f y17_g_0 y17_g_1 n17_g q17_cA q17_cB q17_aA q17_aB q17_dA q17_dB
        obtain ⟨ab, ao, rfl, _, hc⟩ := q18_cA.out.2 (show 0 < cm by omega)
        have t0 := hc 0 (by omega)
        rw [Nat.add_zero] at t0
        have hcm0 : (0 : Int) < (cm : Int) := by omega
        have hcm1 : 0 < cm := by omega
        clear hc
        by_cases hl0 : lv = cl.getD 0 0
        · rw [← hl0] at t0
          clear hl0
          go_wp2
          go_ret
          exact ⟨rfl, (by repeat (first | assumption | exact Below.refl _ _ | (refine Below.trans ?_ (D18.mono (by first | omega | (simp; done) | (simp; omega)))) | (refine Below.setCell ?_ (by first | omega | (simp; done) | (simp; omega)) _) | apply below_drewN | apply Below.drew | (refine Below.alloc ?_ (by first | omega | (simp; done) | (simp; omega)) _)))⟩
        · obtain ⟨l6, l7⟩ := L5.out hl0
          have wl1 := Lib.hid (WalkArith.wf_i64 (n := lv - 1) (by omega))
          obtain ⟨x0, e_x0⟩ : ∃ zz_, zz_ = cl.getD 0 0 := ⟨_, rfl⟩
          rw [← e_x0] at t0 hl0
          have L6 := Lib.hid l6
          obtain ⟨le, e_le⟩ : ∃ zz_, zz_ = r0_VolumeAt cl cv (lv - 1) := ⟨_, rfl⟩
          rw [← e_le] at l7
          have E_le := Lib.hid e_le
          clear e_x0 e_le l6
          go_wp2_with fail
          refine (implC_VolumeAt _ _ _ cl _ _ _ cv (lv - 1) _ (by omega) (Rd.mono (q18_cA.out.below (by repeat (first | assumption | exact Below.refl _ _ | (refine Below.setCell ?_ (by first | omega | (simp; done) | (simp; omega)) _) | apply below_drewN | apply Below.drew | (refine Below.alloc ?_ (by first | omega | (simp; done) | (simp; omega)) _)))) (by first | omega | (simp; done) | (simp; omega))) Hfcl.out (by omega) (Rd.mono (q18_cB.out.below (by repeat (first | assumption | exact Below.refl _ _ | (refine Below.setCell ?_ (by first | omega | (simp; done) | (simp; omega)) _) | apply below_drewN | apply Below.drew | (refine Below.alloc ?_ (by first | omega | (simp; done) | (simp; omega)) _)))) (by first | omega | (simp; done) | (simp; omega))) Hfcv.out wl1.out).mono ?_
          rintro e19 W19 ⟨rfl, b19⟩
          rw [L6.out]
          rw [← E_le.out]
          obtain ⟨k19, _⟩ := bcell b19
          have s19 : W18.heap.size + 0 ≤ W19.heap.size := by have := b19.size; (try simp at this); omega
          have d19 : Below W18.heap.size W18 W19 := (by repeat (first | assumption | exact Below.refl _ _ | (refine Below.trans ?_ (b19.mono (by first | omega | (simp; done) | (simp; omega)))) | (refine Below.setCell ?_ (by first | omega | (simp; done) | (simp; omega)) _) | apply below_drewN | apply Below.drew | (refine Below.alloc ?_ (by first | omega | (simp; done) | (simp; omega)) _)))
          have D19 : Below w.heap.size w W19 := Below.trans D18 (d19.mono (by omega))
          have y19_c_0 : W19.cell? ⟨W1.heap.size, 0, none⟩ = some (.slice (some ⟨ab, ao, none⟩) cm cc) := (d19.cell (p := ⟨W1.heap.size, 0, none⟩) (show W1.heap.size < W18.heap.size by omega)).trans y18_c_0
          have y19_c_1 : W19.cell? ⟨W1.heap.size, 1, none⟩ = some (.slice cB cp cd) := (d19.cell (p := ⟨W1.heap.size, 1, none⟩) (show W1.heap.size < W18.heap.size by omega)).trans y18_c_1
          have n19_c : W1.heap.size < W19.heap.size := by omega
          have y19_a_0 : W19.cell? ⟨W4.heap.size, 0, none⟩ = some (.slice aA am ac) := (d19.cell (p := ⟨W4.heap.size, 0, none⟩) (show W4.heap.size < W18.heap.size by omega)).trans y18_a_0
          have y19_a_1 : W19.cell? ⟨W4.heap.size, 1, none⟩ = some (.slice aB ap ad) := (d19.cell (p := ⟨W4.heap.size, 1, none⟩) (show W4.heap.size < W18.heap.size by omega)).trans y18_a_1
          have n19_a : W4.heap.size < W19.heap.size := by omega
          have y19_d_0 : W19.cell? ⟨W11.heap.size, 0, none⟩ = some (.slice dA dm dc) := (d19.cell (p := ⟨W11.heap.size, 0, none⟩) (show W11.heap.size < W18.heap.size by omega)).trans y18_d_0
          have y19_d_1 : W19.cell? ⟨W11.heap.size, 1, none⟩ = some (.slice dB dp dd) := (d19.cell (p := ⟨W11.heap.size, 1, none⟩) (show W11.heap.size < W18.heap.size by omega)).trans y18_d_1
          have n19_d : W11.heap.size < W19.heap.size := by omega
          have y19_f_0 : W19.cell? ⟨W14.heap.size, 0, none⟩ = some (.int .i64 fn) := (d19.cell (p := ⟨W14.heap.size, 0, none⟩) (show W14.heap.size < W18.heap.size by omega)).trans y18_f_0
          have y19_f_1 : W19.cell? ⟨W14.heap.size, 1, none⟩ = some (.int .i64 fd) := (d19.cell (p := ⟨W14.heap.size, 1, none⟩) (show W14.heap.size < W18.heap.size by omega)).trans y18_f_1
          have n19_f : W14.heap.size < W19.heap.size := by omega
          have y19_g_0 : W19.cell? ⟨W15.heap.size, 0, none⟩ = some (.int .i64 fn) := (d19.cell (p := ⟨W15.heap.size, 0, none⟩) (show W15.heap.size < W18.heap.size by omega)).trans y18_g_0
          have y19_g_1 : W19.cell? ⟨W15.heap.size, 1, none⟩ = some (.int .i64 fd) := (d19.cell (p := ⟨W15.heap.size, 1, none⟩) (show W15.heap.size < W18.heap.size by omega)).trans y18_g_1
          have n19_g : W15.heap.size < W19.heap.size := by omega
          have q19_cA := Lib.hid (q18_cA.out.below (d19.mono (show W1.heap.size ≤ W18.heap.size by omega)))
          have q19_cB := Lib.hid (q18_cB.out.below (d19.mono (show W1.heap.size ≤ W18.heap.size by omega)))
          have q19_aA := Lib.hid (q18_aA.out.below (d19.mono (show W4.heap.size ≤ W18.heap.size by omega)))
          have q19_aB := Lib.hid (q18_aB.out.below (d19.mono (show W4.heap.size ≤ W18.heap.size by omega)))
          have q19_dA := Lib.hid (q18_dA.out.below (d19.mono (show W11.heap.size ≤ W18.heap.size by omega)))
          have q19_dB := Lib.hid (q18_dB.out.below (d19.mono (show W11.heap.size ≤ W18.heap.size by omega)))
          clear k19 y18_c_0 y18_c_1 n18_c y18_a_0 y18_a_1 n18_a y18_d_0 y18_d_1 n18_d y18_f_0 y18_f_1 n18_f y18_g_0 y18_g_1 n18_g q18_cA q18_cB q18_aA q18_aB q18_dA q18_dB
          go_wp2
          go_ret
          exact ⟨ret_bool (by first | rfl | (simp; done) | (simp; omega)), (by repeat (first | assumption | exact Below.refl _ _ | (refine Below.trans ?_ (D19.mono (by first | omega | (simp; done) | (simp; omega)))) | (refine Below.setCell ?_ (by first | omega | (simp; done) | (simp; omega)) _) | apply below_drewN | apply Below.drew | (refine Below.alloc ?_ (by first | omega | (simp; done) | (simp; omega)) _)))⟩
      · go_wp2
        go_ret
        exact ⟨rfl, (by repeat (first | assumption | exact Below.refl _ _ | (refine Below.trans ?_ (D17.mono (by first | omega | (simp; done) | (simp; omega)))) | (refine Below.setCell ?_ (by first | omega | (simp; done) | (simp; omega)) _) | apply below_drewN | apply Below.drew | (refine Below.alloc ?_ (by first | omega | (simp; done) | (simp; omega)) _)))⟩
    · skip
      by_cases hb0 : bad = 0
      · subst hb0
        obtain ⟨l0, l1, l2, l3, l4, l5⟩ := sto_level E_bad.out.symm
        rw [← E_lv.out] at l1 l2 l3 l4 l5
        have wlv := WalkArith.wf_i64 (n := lv) (by omega)
        have WLV := Lib.hid wlv
        obtain ⟨en, e_en⟩ : ∃ zz_, zz_ = r0_VolumeAt cl cv lv := ⟨_, rfl⟩
        rw [← e_en] at l4
        have E_en := Lib.hid e_en
        have L3 := Lib.hid l3
        have L5 := Lib.hid l5
        clear l3 l5 wlv e_en
        have hcl := q15_cA.out.1
        go_wp2_with fail
        refine (implC_VolumeAt _ _ _ cl _ _ _ cv lv _ (by omega) (Rd.mono (q15_cA.out.below (by repeat (first | assumption | exact Below.refl _ _ | (refine Below.setCell ?_ (by first | omega | (simp; done) | (simp; omega)) _) | apply below_drewN | apply Below.drew | (refine Below.alloc ?_ (by first | omega | (simp; done) | (simp; omega)) _)))) (by first | omega | (simp; done) | (simp; omega))) Hfcl.out (by omega) (Rd.mono (q15_cB.out.below (by repeat (first | assumption | exact Below.refl _ _ | (refine Below.setCell ?_ (by first | omega | (simp; done) | (simp; omega)) _) | apply below_drewN | apply Below.drew | (refine Below.alloc ?_ (by first | omega | (simp; done) | (simp; omega)) _)))) (by first | omega | (simp; done) | (simp; omega))) Hfcv.out WLV.out).mono ?_
        rintro e16 W16 ⟨rfl, b16⟩
        rw [L3.out]
        rw [← E_en.out]
        obtain ⟨k16, _⟩ := bcell b16
        have s16 : W15.heap.size + 1 ≤ W16.heap.size := by have := b16.size; (try simp at this); omega
        have d16 : Below W15.heap.size W15 W16 := (by repeat (first | assumption | exact Below.refl _ _ | (refine Below.trans ?_ (b16.mono (by first | omega | (simp; done) | (simp; omega)))) | (refine Below.setCell ?_ (by first | omega | (simp; done) | (simp; omega)) _) | apply below_drewN | apply Below.drew | (refine Below.alloc ?_ (by first | omega | (simp; done) | (simp; omega)) _)))
        have D16 : Below w.heap.size w W16 := Below.trans D15 (d16.mono (by omega))
        have y16_c_0 : W16.cell? ⟨W1.heap.size, 0, none⟩ = some (.slice cA cm cc) := (d16.cell (p := ⟨W1.heap.size, 0, none⟩) (show W1.heap.size < W15.heap.size by omega)).trans y15_c_0
        have y16_c_1 : W16.cell? ⟨W1.heap.size, 1, none⟩ = some (.slice cB cp cd) := (d16.cell (p := ⟨W1.heap.size, 1, none⟩) (show W1.heap.size < W15.heap.size by omega)).trans y15_c_1
        have n16_c : W1.heap.size < W16.heap.size := by omega
        have y16_a_0 : W16.cell? ⟨W4.heap.size, 0, none⟩ = some (.slice aA am ac) := (d16.cell (p := ⟨W4.heap.size, 0, none⟩) (show W4.heap.size < W15.heap.size by omega)).trans y15_a_0
        have y16_a_1 : W16.cell? ⟨W4.heap.size, 1, none⟩ = some (.slice aB ap ad) := (d16.cell (p := ⟨W4.heap.size, 1, none⟩) (show W4.heap.size < W15.heap.size by omega)).trans y15_a_1
        have n16_a : W4.heap.size < W16.heap.size := by omega
        have y16_d_0 : W16.cell? ⟨W11.heap.size, 0, none⟩ = some (.slice dA dm dc) := (d16.cell (p := ⟨W11.heap.size, 0, none⟩) (show W11.heap.size < W15.heap.size by omega)).trans y15_d_0
        have y16_d_1 : W16.cell? ⟨W11.heap.size, 1, none⟩ = some (.slice dB dp dd) := (d16.cell (p := ⟨W11.heap.size, 1, none⟩) (show W11.heap.size < W15.heap.size by omega)).trans y15_d_1
        have n16_d : W11.heap.size < W16.heap.size := by omega
        have y16_f_0 : W16.cell? ⟨W14.heap.size, 0, none⟩ = some (.int .i64 fn) := (d16.cell (p := ⟨W14.heap.size, 0, none⟩) (show W14.heap.size < W15.heap.size by omega)).trans y15_f_0
        have y16_f_1 : W16.cell? ⟨W14.heap.size, 1, none⟩ = some (.int .i64 fd) := (d16.cell (p := ⟨W14.heap.size, 1, none⟩) (show W14.heap.size < W15.heap.size by omega)).trans y15_f_1
        have n16_f : W14.heap.size < W16.heap.size := by omega
        have y16_g_0 : W16.cell? ⟨W15.heap.size, 0, none⟩ = some (.int .i64 fn) := by rw [k16 _ _ (by first | omega | (simp; done) | (simp; omega))]; first | (simp; done) | go_simp
        have y16_g_1 : W16.cell? ⟨W15.heap.size, 1, none⟩ = some (.int .i64 fd) := by rw [k16 _ _ (by first | omega | (simp; done) | (simp; omega))]; first | (simp; done) | go_simp
        have n16_g : W15.heap.size < W16.heap.size := by omega
        have q16_cA := Lib.hid (q15_cA.out.below (d16.mono (show W1.heap.size ≤ W15.heap.size by omega)))
        have q16_cB := Lib.hid (q15_cB.out.below (d16.mono (show W1.heap.size ≤ W15.heap.size by omega)))
        have q16_aA := Lib.hid (q15_aA.out.below (d16.mono (show W4.heap.size ≤ W15.heap.size by omega)))
        have q16_aB := Lib.hid (q15_aB.out.below (d16.mono (show W4.heap.size ≤ W15.heap.size by omega)))
        have q16_dA := Lib.hid (q15_dA.out.below (d16.mono (show W11.heap.size ≤ W15.heap.size by omega)))
        have q16_dB := Lib.hid (q15_dB.out.below (d16.mono (show W11.heap.size ≤ W15.heap.size by omega)))
        clear k16 y15_c_0 y15_c_1 n15_c y15_a_0 y15_a_1 n15_a y15_d_0 y15_d_1 n15_d y15_f_0 y15_f_1 n15_f q15_cA q15_cB q15_aA q15_aB q15_dA q15_dB
        obtain ⟨ab, ao, rfl, _, hc⟩ := q16_cA.out.2 (show 0 < cm by omega)
        have t0 := hc 0 (by omega)
        rw [Nat.add_zero] at t0
        have hcm0 : (0 : Int) < (cm : Int) := by omega
        have hcm1 : 0 < cm := by omega
        clear hc
        by_cases hl0 : lv = cl.getD 0 0
        · rw [← hl0] at t0
          clear hl0
          go_wp2
          go_ret
          exact ⟨rfl, (by repeat (first | assumption | exact Below.refl _ _ | (refine Below.trans ?_ (D16.mono (by first | omega | (simp; done) | (simp; omega)))) | (refine Below.setCell ?_ (by first | omega | (simp; done) | (simp; omega)) _) | apply below_drewN | apply Below.drew | (refine Below.alloc ?_ (by first | omega | (simp; done) | (simp; omega)) _)))⟩
        · obtain ⟨l6, l7⟩ := L5.out hl0
          have wl1 := Lib.hid (WalkArith.wf_i64 (n := lv - 1) (by omega))
          obtain ⟨x0, e_x0⟩ : ∃ zz_, zz_ = cl.getD 0 0 := ⟨_, rfl⟩
          rw [← e_x0] at t0 hl0
          have L6 := Lib.hid l6
          obtain ⟨le, e_le⟩ : ∃ zz_, zz_ = r0_VolumeAt cl cv (lv - 1) := ⟨_, rfl⟩
          rw [← e_le] at l7
          have E_le := Lib.hid e_le
          clear e_x0 e_le l6
          go_wp2_with fail
          refine (implC_VolumeAt _ _ _ cl _ _ _ cv (lv - 1) _ (by omega) (Rd.mono (q16_cA.out.below (by repeat (first | assumption | exact Below.refl _ _ | (refine Below.setCell ?_ (by first | omega | (simp; done) | (simp; omega)) _) | apply below_drewN | apply Below.drew | (refine Below.alloc ?_ (by first | omega | (simp; done) | (simp; omega)) _)))) (by first | omega | (simp; done) | (simp; omega))) Hfcl.out (by omega) (Rd.mono (q16_cB.out.below (by repeat (first | assumption | exact Below.refl _ _ | (refine Below.setCell ?_ (by first | omega | (simp; done) | (simp; omega)) _) | apply below_drewN | apply Below.drew | (refine Below.alloc ?_ (by first | omega | (simp; done) | (simp; omega)) _)))) (by first | omega | (simp; done) | (simp; omega))) Hfcv.out wl1.out).mono ?_
          rintro e17 W17 ⟨rfl, b17⟩
          rw [L6.out]
          rw [← E_le.out]
          obtain ⟨k17, _⟩ := bcell b17
          have s17 : W16.heap.size + 0 ≤ W17.heap.size := by have := b17.size; (try simp at this); omega
          have d17 : Below W16.heap.size W16 W17 := (by repeat (first | assumption | exact Below.refl _ _ | (refine Below.trans ?_ (b17.mono (by first | omega | (simp; done) | (simp; omega)))) | (refine Below.setCell ?_ (by first | omega | (simp; done) | (simp; omega)) _) | apply below_drewN | apply Below.drew | (refine Below.alloc ?_ (by first | omega | (simp; done) | (simp; omega)) _)))
          have D17 : Below w.heap.size w W17 := Below.trans D16 (d17.mono (by omega))
          have y17_c_0 : W17.cell? ⟨W1.heap.size, 0, none⟩ = some (.slice (some ⟨ab, ao, none⟩) cm cc) := (d17.cell (p := ⟨W1.heap.size, 0, none⟩) (show W1.heap.size < W16.heap.size by omega)).trans y16_c_0
          have y17_c_1 : W17.cell? ⟨W1.heap.size, 1, none⟩ = some (.slice cB cp cd) := (d17.cell (p := ⟨W1.heap.size, 1, none⟩) (show W1.heap.size < W16.heap.size by omega)).trans y16_c_1
          have n17_c : W1.heap.size < W17.heap.size := by omega
          have y17_a_0 : W17.cell? ⟨W4.heap.size, 0, none⟩ = some (.slice aA am ac) := (d17.cell (p := ⟨W4.heap.size, 0, none⟩) (show W4.heap.size < W16.heap.size by omega)).trans y16_a_0
          have y17_a_1 : W17.cell? ⟨W4.heap.size, 1, none⟩ = some (.slice aB ap ad) := (d17.cell (p := ⟨W4.heap.size, 1, none⟩) (show W4.heap.size < W16.heap.size by omega)).trans y16_a_1
          have n17_a : W4.heap.size < W17.heap.size := by omega
          have y17_d_0 : W17.cell? ⟨W11.heap.size, 0, none⟩ = some (.slice dA dm dc) := (d17.cell (p := ⟨W11.heap.size, 0, none⟩) (show W11.heap.size < W16.heap.size by omega)).trans y16_d_0
          have y17_d_1 : W17.cell? ⟨W11.heap.size, 1, none⟩ = some (.slice dB dp dd) := (d17.cell (p := ⟨W11.heap.size, 1, none⟩) (show W11.heap.size < W16.heap.size by omega)).trans y16_d_1
          have n17_d : W11.heap.size < W17.heap.size := by omega
          have y17_f_0 : W17.cell? ⟨W14.heap.size, 0, none⟩ = some (.int .i64 fn) := (d17.cell (p := ⟨W14.heap.size, 0, none⟩) (show W14.heap.size < W16.heap.size by omega)).trans y16_f_0
          have y17_f_1 : W17.cell? ⟨W14.heap.size, 1, none⟩ = some (.int .i64 fd) := (d17.cell (p := ⟨W14.heap.size, 1, none⟩) (show W14.heap.size < W16.heap.size by omega)).trans y16_f_1
          have n17_f : W14.heap.size < W17.heap.size := by omega
          have y17_g_0 : W17.cell? ⟨W15.heap.size, 0, none⟩ = some (.int .i64 fn) := (d17.cell (p := ⟨W15.heap.size, 0, none⟩) (show W15.heap.size < W16.heap.size by omega)).trans y16_g_0
          have y17_g_1 : W17.cell? ⟨W15.heap.size, 1, none⟩ = some (.int .i64 fd) := (d17.cell (p := ⟨W15.heap.size, 1, none⟩) (show W15.heap.size < W16.heap.size by omega)).trans y16_g_1
          have n17_g : W15.heap.size < W17.heap.size := by omega
          have q17_cA := Lib.hid (q16_cA.out.below (d17.mono (show W1.heap.size ≤ W16.heap.size by omega)))
          have q17_cB := Lib.hid (q16_cB.out.below (d17.mono (show W1.heap.size ≤ W16.heap.size by omega)))
          have q17_aA := Lib.hid (q16_aA.out.below (d17.mono (show W4.heap.size ≤ W16.heap.size by omega)))
          have q17_aB := Lib.hid (q16_aB.out.below (d17.mono (show W4.heap.size ≤ W16.heap.size by omega)))
          have q17_dA := Lib.hid (q16_dA.out.below (d17.mono (show W11.heap.size ≤ W16.heap.size by omega)))
          have q17_dB := Lib.hid (q16_dB.out.below (d17.mono (show W11.heap.size ≤ W16.heap.size by omega)))
          clear k17 y16_c_0 y16_c_1 n16_c y16_a_0 y16_a_1 n16_a y16_d_0 y16_d_1 n16_d y16_f_0 y16_f_1 n16_f y16_g_0 y16_g_1 n16_g q16_cA q16_cB q16_aA q16_aB q16_dA q16_dB
          go_wp2
          go_ret
          exact ⟨ret_bool (by first | rfl | (simp; done) | (simp; omega)), (by repeat (first | assumption | exact Below.refl _ _ | (refine Below.trans ?_ (D17.mono (by first | omega | (simp; done) | (simp; omega)))) | (refine Below.setCell ?_ (by first | omega | (simp; done) | (simp; omega)) _) | apply below_drewN | apply Below.drew | (refine Below.alloc ?_ (by first | omega | (simp; done) | (simp; omega)) _)))⟩
      · go_wp2
        go_ret
        exact ⟨rfl, (by repeat (first | assumption | exact Below.refl _ _ | (refine Below.trans ?_ (D15.mono (by first | omega | (simp; done) | (simp; omega)))) | (refine Below.setCell ?_ (by first | omega | (simp; done) | (simp; omega)) _) | apply below_drewN | apply Below.drew | (refine Below.alloc ?_ (by first | omega | (simp; done) | (simp; omega)) _)))⟩

set_option maxRecDepth 100000 in
set_option maxHeartbeats 1000000 in
theorem walk_FnStorage (a0 : Option Addr) (la0 ca0 : Nat) (za0 : List Int) (w : World) (wa0 : IsRow .u8 w a0 la0 ca0 za0) (hL : laidMetH Tryd.prog Rows.fnStorageRow.laid w) :
    Calls Tryd.prog 4 #[.slice a0 la0 ca0] w fun e w' => e = .returned (.bool true) ∧ Below w.heap.size w w' := by
  obtain ⟨se0, se1, hsent⟩ := sent_of hL
  by_cases hn : la0 ≤ 4096
  case neg =>
    go_enter Tryd.func4, Tryd.ntmps4
    go_wp2_with (go_at_call 13; refine (big_t _ _ _ _ hn).mono ?_; rintro e w' ⟨rfl, rfl⟩)
    go_ret
    exact ⟨rfl, Below.refl _ _⟩
  exact law_FnStorage a0 la0 ca0 w wa0.by hn se0 se1 hsent

end Go.Proofs.YthjcpgabdlfojaaDoor
