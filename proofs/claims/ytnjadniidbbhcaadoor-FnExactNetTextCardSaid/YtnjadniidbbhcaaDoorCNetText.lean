/- Contracts of NetText. -/
import Derived.Test.YtnjadniidbbhcaaDoorNtI
namespace Go.Proofs.YtnjadniidbbhcaaDoor
open Go.RowKit

set_option maxRecDepth 100000 in
set_option maxHeartbeats 3200000 in
theorem implC_NetText (a0_0 : Int) (a0_1 : Option Addr) (la0_1 ca0_1 : Nat) (xa0_1 : List RDitch) (w : World) (ha0_0 : (Lit.int .i64 a0_0).wf = true) (ha0_1 : la0_1 ≤ 1048576) (ra0_1 : Rd_Ditch w w.heap.size a0_1 la0_1 xa0_1) (fa0_1 : Wf_Ditch xa0_1) (hpow : PowTab w) :
    Calls Tryd.prog 12 #[.agg #[.int .i64 a0_0, .slice a0_1 la0_1 ca0_1]] w fun e w' => e = .returned (.string (r0_NetText a0_0 xa0_1)) ∧ Below w.heap.size w w' := by
  have hln := ra0_1.len
  have RA := Lib.hid ra0_1
  have HT := Lib.hid hpow
  clear ra0_1 hpow
  by_cases hv : NetOk a0_0 xa0_1
  · have HOK := Lib.hid hv
    have h20 := hv.2.1
    have HLN := Lib.hid hln
    have HE := Lib.hid (show r0_NetText a0_0 xa0_1 = netB a0_0 xa0_1 la0_1 by rw [← hln]; exact if_pos hv)
    have zn := netB_size hv la0_1 (by omega)
    rw [HE.out]
    have iJ : I64 a0_0 := ⟨by have := hv.1; omega, by have := hv.1; omega⟩
    have hz0 : (dB a0_0).size ≤ 21 := dB_size a0_0 iJ
    obtain ⟨t, ht⟩ : ∃ t, t = dB a0_0 := ⟨_, rfl⟩
    rw [← ht] at hz0
    have ET := Lib.hid ht
    obtain ⟨x, hx⟩ : ∃ x, x = txN xa0_1 la0_1 := ⟨_, rfl⟩
    have EX := Lib.hid hx
    have zx := txN_size hv la0_1 (by omega)
    rw [← hx] at zx
    have HZ := Lib.hid (show 0 < la0_1 → netB a0_0 xa0_1 la0_1 = t ++ ⟨#[58]⟩ ++ (⟨#[32]⟩ ++ x) from fun h => by
      obtain ⟨k, rfl⟩ : ∃ k, la0_1 = k + 1 := ⟨la0_1 - 1, by omega⟩
      rw [net_tx, ht, hx])
    have HZ0 := Lib.hid (show la0_1 = 0 → netB a0_0 xa0_1 la0_1 = t ++ ⟨#[58]⟩ from fun h => by subst h; rw [ht]; rfl)
    obtain ⟨r, hr⟩ : ∃ r, r = netB a0_0 xa0_1 la0_1 := ⟨_, rfl⟩
    rw [← hr] at HZ HZ0 zn ⊢
    have y0 : (t ++ ⟨#[58]⟩ : ByteArray).size = t.size + 1 := by rw [ByteArray.size_append, sz1]
    have y1 : (⟨#[32]⟩ ++ x : ByteArray).size = 1 + x.size := by rw [ByteArray.size_append, sz1]
    clear hv ht hx hr
    by_cases hn : 0 < la0_1
    · have g1 : (la0_1 : Int) > 0 := by omega
      have g2 : (0 : Int) < (la0_1 : Int) := by omega
      have HR := Lib.hid (HZ.out hn)
      clear hn
      go_enter Tryd.func12, Tryd.ntmps12
      go_wp2_with (first
        | (go_at_call 30; refine (impl_vnet a0_0 a0_1 la0_1 ca0_1 xa0_1 _ ha0_1 ((RA.out.below (by repeat (first | assumption | exact Below.refl _ _ | (refine Below.setCell ?_ (by first | omega | (simp; done) | (simp; omega)) _) | apply below_drewN | apply Below.drew | (refine Below.alloc ?_ (by first | omega | (simp; done) | (simp; omega)) _)))).mono (by first | omega | (simp; done) | (simp; omega))) true (by simp [HOK.out])).mono ?_; rintro e w1 ⟨rfl, b1⟩; have s1 : w.heap.size < w1.heap.size := (by have := b1.size; simp at this; omega); obtain ⟨k1, f1⟩ := bcell b1; have z0 : w1.cell? ⟨w.heap.size, 0, none⟩ = some (.int .i64 a0_0) := (by rw [k1 _ _ (by first | omega | (simp; done) | (simp; omega))]; first | (simp; done) | go_simp); have zf0 : w1.frozen? ⟨w.heap.size, 0, none⟩ = false := (by rw [f1 _ _ (by first | omega | (simp; done) | (simp; omega))]; first | (simp; done) | go_simp); have z1 : w1.cell? ⟨w.heap.size, 1, none⟩ = some (.slice a0_1 la0_1 ca0_1) := (by rw [k1 _ _ (by first | omega | (simp; done) | (simp; omega))]; first | (simp; done) | go_simp); have zf1 : w1.frozen? ⟨w.heap.size, 1, none⟩ = false := (by rw [f1 _ _ (by first | omega | (simp; done) | (simp; omega))]; first | (simp; done) | go_simp); clear k1 f1; have d1 : Below w.heap.size w w1 := (by repeat (first | assumption | exact Below.refl _ _ | (refine Below.trans ?_ (b1.mono (by first | omega | (simp; done) | (simp; omega)))) | (refine Below.setCell ?_ (by first | omega | (simp; done) | (simp; omega)) _) | apply below_drewN | apply Below.drew | (refine Below.alloc ?_ (by first | omega | (simp; done) | (simp; omega)) _))))
        | (go_at_call 31; refine (dec_implU a0_0 t _ iJ (pow_below HT.out d1) ET.out).mono ?_; rintro e w2 ⟨rfl, b2⟩; have s2 : w.heap.size < w2.heap.size := Nat.lt_of_lt_of_le s1 b2.size; have v0 := (b2.cell (p := ⟨w.heap.size, 0, none⟩) s1).trans z0; have v1 := (b2.cell (p := ⟨w.heap.size, 1, none⟩) s1).trans z1; have d2 : Below w.heap.size w w2 := d1.trans (b2.mono (by omega)))
        | (go_at_call 32; refine (joinW_t a0_1 la0_1 ca0_1 xa0_1 _ (by omega) ((RA.out.below d2).mono (by omega)) (pow_below HT.out d2) a0_0 HLN.out HOK.out).mono ?_; rw [← EX.out]; rintro e w3 ⟨rfl, b3⟩; have d3 : Below w.heap.size w w3 := d2.trans (b3.mono (by omega))))
      go_ret
      exact ⟨ret_str HR.out.symm, d3⟩
    · obtain rfl : la0_1 = 0 := by omega
      have HR := Lib.hid (HZ0.out rfl)
      clear hn
      go_enter Tryd.func12, Tryd.ntmps12
      go_wp2_with (first
        | (go_at_call 30; refine (impl_vnet a0_0 a0_1 0 ca0_1 xa0_1 _ ha0_1 ((RA.out.below (by repeat (first | assumption | exact Below.refl _ _ | (refine Below.setCell ?_ (by first | omega | (simp; done) | (simp; omega)) _) | apply below_drewN | apply Below.drew | (refine Below.alloc ?_ (by first | omega | (simp; done) | (simp; omega)) _)))).mono (by first | omega | (simp; done) | (simp; omega))) true (by simp [HOK.out])).mono ?_; rintro e w1 ⟨rfl, b1⟩; have s1 : w.heap.size < w1.heap.size := (by have := b1.size; simp at this; omega); obtain ⟨k1, f1⟩ := bcell b1; have z0 : w1.cell? ⟨w.heap.size, 0, none⟩ = some (.int .i64 a0_0) := (by rw [k1 _ _ (by first | omega | (simp; done) | (simp; omega))]; first | (simp; done) | go_simp); have zf0 : w1.frozen? ⟨w.heap.size, 0, none⟩ = false := (by rw [f1 _ _ (by first | omega | (simp; done) | (simp; omega))]; first | (simp; done) | go_simp); have z1 : w1.cell? ⟨w.heap.size, 1, none⟩ = some (.slice a0_1 0 ca0_1) := (by rw [k1 _ _ (by first | omega | (simp; done) | (simp; omega))]; first | (simp; done) | go_simp); have zf1 : w1.frozen? ⟨w.heap.size, 1, none⟩ = false := (by rw [f1 _ _ (by first | omega | (simp; done) | (simp; omega))]; first | (simp; done) | go_simp); clear k1 f1; have d1 : Below w.heap.size w w1 := (by repeat (first | assumption | exact Below.refl _ _ | (refine Below.trans ?_ (b1.mono (by first | omega | (simp; done) | (simp; omega)))) | (refine Below.setCell ?_ (by first | omega | (simp; done) | (simp; omega)) _) | apply below_drewN | apply Below.drew | (refine Below.alloc ?_ (by first | omega | (simp; done) | (simp; omega)) _))))
        | (go_at_call 31; refine (dec_implU a0_0 t _ iJ (pow_below HT.out d1) ET.out).mono ?_; rintro e w2 ⟨rfl, b2⟩; have s2 : w.heap.size < w2.heap.size := Nat.lt_of_lt_of_le s1 b2.size; have v0 := (b2.cell (p := ⟨w.heap.size, 0, none⟩) s1).trans z0; have v1 := (b2.cell (p := ⟨w.heap.size, 1, none⟩) s1).trans z1; have d2 : Below w.heap.size w w2 := d1.trans (b2.mono (by omega))))
      go_ret
      exact ⟨ret_str HR.out.symm, d2⟩
  · have HV := Lib.hid hv
    have HE := Lib.hid (show r0_NetText a0_0 xa0_1 = ⟨#[]⟩ from if_neg hv)
    rw [HE.out]
    clear hv hln
    go_enter Tryd.func12, Tryd.ntmps12
    go_wp2_with (go_at_call 30; refine (impl_vnet a0_0 a0_1 la0_1 ca0_1 xa0_1 _ ha0_1 ((RA.out.below (by repeat (first | assumption | exact Below.refl _ _ | (refine Below.setCell ?_ (by first | omega | (simp; done) | (simp; omega)) _) | apply below_drewN | apply Below.drew | (refine Below.alloc ?_ (by first | omega | (simp; done) | (simp; omega)) _)))).mono (by first | omega | (simp; done) | (simp; omega))) false (by simp [HV.out])).mono ?_; rintro e w1 ⟨rfl, b1⟩; have d1 : Below w.heap.size w w1 := (by repeat (first | assumption | exact Below.refl _ _ | (refine Below.trans ?_ (b1.mono (by first | omega | (simp; done) | (simp; omega)))) | (refine Below.setCell ?_ (by first | omega | (simp; done) | (simp; omega)) _) | apply below_drewN | apply Below.drew | (refine Below.alloc ?_ (by first | omega | (simp; done) | (simp; omega)) _))))
    go_ret
    exact ⟨rfl, d1⟩

end Go.Proofs.YtnjadniidbbhcaaDoor
