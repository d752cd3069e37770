/- The state of a sluice after an hour. -/
import Derived.Test.YtcimigaimlojlaaRSluice
import Derived.Test.YtcimigaimlojlaaStepG
import Derived.Test.YtcimigaimlojlaaStepJ
namespace Go.Proofs.Ytcimigaimlojlaa
open Go.RowKit

structure StB (w W : World) (a b : Int) (g0 : Bool) (g1 g2 : Int) : Prop where
  D : Below w.heap.size w W
  l0 : w.heap.size < W.heap.size
  l1 : w.heap.size + 1 < W.heap.size
  l2 : w.heap.size + 1 + 1 < W.heap.size
  c0_0 : W.cell? ⟨w.heap.size, 0, none⟩ = some (.int .i64 a)
  c0_1 : W.cell? ⟨w.heap.size, 1, none⟩ = some (.int .i64 b)
  c1_0 : W.cell? ⟨w.heap.size + 1, 0, none⟩ = some (.bool g0)
  c1_1 : W.cell? ⟨w.heap.size + 1, 1, none⟩ = some (.int .i64 g1)
  c1_2 : W.cell? ⟨w.heap.size + 1, 2, none⟩ = some (.int .i64 g2)
  c2_0 : W.cell? ⟨w.heap.size + 1 + 1, 0, none⟩ = some (.bool false)
  f2_0 : W.frozen? ⟨w.heap.size + 1 + 1, 0, none⟩ = false
  c2_1 : W.cell? ⟨w.heap.size + 1 + 1, 1, none⟩ = some (.int .i64 0)
  f2_1 : W.frozen? ⟨w.heap.size + 1 + 1, 1, none⟩ = false
  c2_2 : W.cell? ⟨w.heap.size + 1 + 1, 2, none⟩ = some (.int .i64 0)
  f2_2 : W.frozen? ⟨w.heap.size + 1 + 1, 2, none⟩ = false
theorem StB.step {w W X W' : World} {a b : Int} {g0 : Bool} {g1 g2 : Int} (h : StB w W a b g0 g1 g2) (hX : Below W.heap.size W X) (hb : Below X.heap.size X W') : StB w W' a b g0 g1 g2 := by
  have hq : Below W.heap.size W W' := hX.trans (hb.mono hX.size)
  exact ⟨h.D.trans (hq.mono h.D.size), Nat.lt_of_lt_of_le h.l0 hq.size, Nat.lt_of_lt_of_le h.l1 hq.size, Nat.lt_of_lt_of_le h.l2 hq.size, (hq.cell (p := ⟨w.heap.size, 0, none⟩) h.l0).trans h.c0_0, (hq.cell (p := ⟨w.heap.size, 1, none⟩) h.l0).trans h.c0_1, (hq.cell (p := ⟨w.heap.size + 1, 0, none⟩) h.l1).trans h.c1_0, (hq.cell (p := ⟨w.heap.size + 1, 1, none⟩) h.l1).trans h.c1_1, (hq.cell (p := ⟨w.heap.size + 1, 2, none⟩) h.l1).trans h.c1_2, (hq.cell (p := ⟨w.heap.size + 1 + 1, 0, none⟩) h.l2).trans h.c2_0, (hq.frozen (p := ⟨w.heap.size + 1 + 1, 0, none⟩) h.l2).trans h.f2_0, (hq.cell (p := ⟨w.heap.size + 1 + 1, 1, none⟩) h.l2).trans h.c2_1, (hq.frozen (p := ⟨w.heap.size + 1 + 1, 1, none⟩) h.l2).trans h.f2_1, (hq.cell (p := ⟨w.heap.size + 1 + 1, 2, none⟩) h.l2).trans h.c2_2, (hq.frozen (p := ⟨w.heap.size + 1 + 1, 2, none⟩) h.l2).trans h.f2_2⟩

def ssV (a b p m : Int) : Prop := slOk a b ∧ gtOk p m
instance (a b p m : Int) : Decidable (ssV a b p m) := by unfold ssV; exact inferInstance
def ssR (ord i o : Int) : Prop := (0 ≤ ord ∧ ord ≤ 2) ∧ slv i ∧ slv o
instance (ord i o : Int) : Decidable (ssR ord i o) := by unfold ssR; exact inferInstance
def ssG (a b : Int) (op : Bool) (p m ord i o : Int) : RGate := if ssV a b p m ∧ ssR ord i o then stG a b ord i o ⟨op, p, m⟩ else zGate
def ssC (a b : Int) (op : Bool) (p m ord i o : Int) : Int := if ssV a b p m ∧ ssR ord i o then stC a b ord i o ⟨op, p, m⟩ else sc3 (ssV a b p m) (ssR ord i o)
def r0_StepSluice (a0_0 : Int) (a0_1 : Int) (a1_0 : Bool) (a1_1 : Int) (a1_2 : Int) (a2 : Int) (a3 : Int) (a4 : Int) : Bool := (ssG a0_0 a0_1 a1_0 a1_1 a1_2 a2 a3 a4).f0
def r1_StepSluice (a0_0 : Int) (a0_1 : Int) (a1_0 : Bool) (a1_1 : Int) (a1_2 : Int) (a2 : Int) (a3 : Int) (a4 : Int) : Int := (ssG a0_0 a0_1 a1_0 a1_1 a1_2 a2 a3 a4).f1
def r2_StepSluice (a0_0 : Int) (a0_1 : Int) (a1_0 : Bool) (a1_1 : Int) (a1_2 : Int) (a2 : Int) (a3 : Int) (a4 : Int) : Int := (ssG a0_0 a0_1 a1_0 a1_1 a1_2 a2 a3 a4).f2
def r3_StepSluice (a0_0 : Int) (a0_1 : Int) (a1_0 : Bool) (a1_1 : Int) (a1_2 : Int) (a2 : Int) (a3 : Int) (a4 : Int) : Int := ssC a0_0 a0_1 a1_0 a1_1 a1_2 a2 a3 a4

set_option maxRecDepth 100000 in
set_option maxHeartbeats 6400000 in
theorem specC_StepSluice (a0_0 : Int) (a0_1 : Int) (a1_0 : Bool) (a1_1 : Int) (a1_2 : Int) (a2 : Int) (a3 : Int) (a4 : Int) (w : World) (ha0_0 : (Lit.int .i64 a0_0).wf = true) (ha0_1 : (Lit.int .i64 a0_1).wf = true) (ha1_1 : (Lit.int .i64 a1_1).wf = true) (ha1_2 : (Lit.int .i64 a1_2).wf = true) (ha2 : (Lit.int .i64 a2).wf = true) (ha3 : (Lit.int .i64 a3).wf = true) (ha4 : (Lit.int .i64 a4).wf = true) :
    Calls Try.prog 12 #[.agg #[.int .i64 a0_0, .int .i64 a0_1], .agg #[.bool a1_0, .int .i64 a1_1, .int .i64 a1_2], .int .i64 a2, .int .i64 a3, .int .i64 a4] w fun e w' => e = .returned (.tuple #[.agg #[.bool (r0_StepSluice a0_0 a0_1 a1_0 a1_1 a1_2 a2 a3 a4), .int .i64 (r1_StepSluice a0_0 a0_1 a1_0 a1_1 a1_2 a2 a3 a4), .int .i64 (r2_StepSluice a0_0 a0_1 a1_0 a1_1 a1_2 a2 a3 a4)], .int .i64 (r3_StepSluice a0_0 a0_1 a1_0 a1_1 a1_2 a2 a3 a4)]) ∧ Below w.heap.size w w' := by
  unfold r0_StepSluice r1_StepSluice r2_StepSluice r3_StepSluice
  by_cases h : ssV a0_0 a0_1 a1_1 a1_2 ∧ ssR a2 a3 a4
  · have e0 : ssG a0_0 a0_1 a1_0 a1_1 a1_2 a2 a3 a4 = stG a0_0 a0_1 a2 a3 a4 ⟨a1_0, a1_1, a1_2⟩ := if_pos h
    have e1 : ssC a0_0 a0_1 a1_0 a1_1 a1_2 a2 a3 a4 = stC a0_0 a0_1 a2 a3 a4 ⟨a1_0, a1_1, a1_2⟩ := if_pos h
    rw [e0, e1]
    clear e0 e1
    obtain ⟨⟨hs, hg⟩, hord, hi, ho⟩ := h
    have HV1 := Lib.hid (show true = decide (slOk a0_0 a0_1) from (decide_eq_true hs).symm)
    have HV2 := Lib.hid (show true = decide (gtOk a1_1 a1_2) from (decide_eq_true hg).symm)
    have HL1 := Lib.hid (show true = decide (slv a3) from (decide_eq_true hi).symm)
    have HL2 := Lib.hid (show true = decide (slv a4) from (decide_eq_true ho).symm)
    have HT := Lib.hid (fun W => stS_t a0_0 a0_1 a3 a4 a2 ⟨a1_0, a1_1, a1_2⟩ W hs hg hi ho hord _ rfl _ rfl)
    generalize stC a0_0 a0_1 a2 a3 a4 ⟨a1_0, a1_1, a1_2⟩ = C at *
    generalize stG a0_0 a0_1 a2 a3 a4 ⟨a1_0, a1_1, a1_2⟩ = G at *
    obtain ⟨G0, G1, G2⟩ := G
    simp only at HT ⊢
    obtain ⟨o1, o2⟩ := hord
    clear hs hg hi ho
    go_enter Try.func12, Try.ntmps12
    go_wp2_with fail
    have ST := Lib.hid (show StB w (((w.alloc (.cells #[.int .i64 a0_0, .int .i64 a0_1] 26)).alloc (.cells #[.bool a1_0, .int .i64 a1_1, .int .i64 a1_2] 31)).alloc (.cells #[.bool false, .int .i64 0, .int .i64 0] 31)) a0_0 a0_1 a1_0 a1_1 a1_2 from ⟨(by repeat (first | assumption | exact Below.refl _ _ | (refine Below.setCell ?_ (by first | omega | (simp; done) | (simp; omega)) _) | apply below_drewN | apply Below.drew | (refine Below.alloc ?_ (by first | omega | (simp; done) | (simp; omega)) _))), (by first | omega | (simp; done) | (simp; omega)), (by first | omega | (simp; done) | (simp; omega)), (by first | omega | (simp; done) | (simp; omega)), (by first | (simp; done) | go_simp), (by first | (simp; done) | go_simp), (by first | (simp; done) | go_simp), (by first | (simp; done) | go_simp), (by first | (simp; done) | go_simp), (by first | (simp; done) | go_simp), (by first | (simp; done) | go_simp), (by first | (simp; done) | go_simp), (by first | (simp; done) | go_simp), (by first | (simp; done) | go_simp), (by first | (simp; done) | go_simp)⟩)
    generalize (((w.alloc (.cells #[.int .i64 a0_0, .int .i64 a0_1] 26)).alloc (.cells #[.bool a1_0, .int .i64 a1_1, .int .i64 a1_2] 31)).alloc (.cells #[.bool false, .int .i64 0, .int .i64 0] 31)) = W0 at ST ⊢
    have l0 := ST.out.l0
    have l1 := ST.out.l1
    have l2 := ST.out.l2
    have c0_0 := ST.out.c0_0
    have c0_1 := ST.out.c0_1
    have c1_0 := ST.out.c1_0
    have c1_1 := ST.out.c1_1
    have c1_2 := ST.out.c1_2
    have c2_0 := ST.out.c2_0
    have f2_0 := ST.out.f2_0
    have c2_1 := ST.out.c2_1
    have f2_1 := ST.out.f2_1
    have c2_2 := ST.out.c2_2
    have f2_2 := ST.out.f2_2
    go_wp2_with (first | (go_at_call 44; refine (sluS_any _ _ _ _ HV1.out).mono ?_; rintro en Wn ⟨rfl, bn⟩; replace ST := Lib.hid (ST.out.step (by first | exact Below.refl _ _ | exact (by repeat (first | assumption | exact Below.refl _ _ | (refine Below.setCell ?_ (by first | omega | (simp; done) | (simp; omega)) _) | apply below_drewN | apply Below.drew | (refine Below.alloc ?_ (by first | omega | (simp; done) | (simp; omega)) _)))) bn); replace l0 := ST.out.l0; replace l1 := ST.out.l1; replace l2 := ST.out.l2; replace c0_0 := ST.out.c0_0; replace c0_1 := ST.out.c0_1; replace c1_0 := ST.out.c1_0; replace c1_1 := ST.out.c1_1; replace c1_2 := ST.out.c1_2; replace c2_0 := ST.out.c2_0; replace f2_0 := ST.out.f2_0; replace c2_1 := ST.out.c2_1; replace f2_1 := ST.out.f2_1; replace c2_2 := ST.out.c2_2; replace f2_2 := ST.out.f2_2; clear bn) | (go_at_call 45; refine (gtS_any _ _ _ _ _ HV2.out).mono ?_; rintro en Wn ⟨rfl, bn⟩; replace ST := Lib.hid (ST.out.step (by first | exact Below.refl _ _ | exact (by repeat (first | assumption | exact Below.refl _ _ | (refine Below.setCell ?_ (by first | omega | (simp; done) | (simp; omega)) _) | apply below_drewN | apply Below.drew | (refine Below.alloc ?_ (by first | omega | (simp; done) | (simp; omega)) _)))) bn); replace l0 := ST.out.l0; replace l1 := ST.out.l1; replace l2 := ST.out.l2; replace c0_0 := ST.out.c0_0; replace c0_1 := ST.out.c0_1; replace c1_0 := ST.out.c1_0; replace c1_1 := ST.out.c1_1; replace c1_2 := ST.out.c1_2; replace c2_0 := ST.out.c2_0; replace f2_0 := ST.out.f2_0; replace c2_1 := ST.out.c2_1; replace f2_1 := ST.out.f2_1; replace c2_2 := ST.out.c2_2; replace f2_2 := ST.out.f2_2; clear bn) | (go_at_call 46; first | (refine (in_t _ _ _ _ (by omega)).mono ?_; rintro e w' ⟨rfl, rfl⟩) | (refine (in_f _ _ _ _ (by omega)).mono ?_; rintro e w' ⟨rfl, rfl⟩)) | (go_at_call 47; have := tok; refine (slvS_any a4 _ _ HL2.out).mono ?_; rintro en wn ⟨rfl, rfl⟩) | (go_at_call 47; refine (slvS_any a3 _ _ HL1.out).mono ?_; rintro en wn ⟨rfl, rfl⟩; have tok : True := trivial) | (go_at_call 48; refine (HT.out _).mono ?_; rintro en Wn ⟨rfl, bn⟩; replace ST := Lib.hid (ST.out.step (by first | exact Below.refl _ _ | exact (by repeat (first | assumption | exact Below.refl _ _ | (refine Below.setCell ?_ (by first | omega | (simp; done) | (simp; omega)) _) | apply below_drewN | apply Below.drew | (refine Below.alloc ?_ (by first | omega | (simp; done) | (simp; omega)) _)))) bn); replace l0 := ST.out.l0; replace l1 := ST.out.l1; replace l2 := ST.out.l2; replace c0_0 := ST.out.c0_0; replace c0_1 := ST.out.c0_1; replace c1_0 := ST.out.c1_0; replace c1_1 := ST.out.c1_1; replace c1_2 := ST.out.c1_2; replace c2_0 := ST.out.c2_0; replace f2_0 := ST.out.f2_0; replace c2_1 := ST.out.c2_1; replace f2_1 := ST.out.f2_1; replace c2_2 := ST.out.c2_2; replace f2_2 := ST.out.f2_2; clear bn))
    exact bodyPost_ret (v := .tuple #[.agg #[.bool G0, .int .i64 G1, .int .i64 G2], .int .i64 C]) (by simp [results, Try.results12, go_sem, c2_0, c2_1, c2_2]) rfl ⟨rfl, (by repeat (first | assumption | exact Below.refl _ _ | (refine Below.trans ?_ (ST.out.D.mono (by first | omega | (simp; done) | (simp; omega)))) | (refine Below.setCell ?_ (by first | omega | (simp; done) | (simp; omega)) _) | apply below_drewN | apply Below.drew | (refine Below.alloc ?_ (by first | omega | (simp; done) | (simp; omega)) _)))⟩
  · have e0 : ssG a0_0 a0_1 a1_0 a1_1 a1_2 a2 a3 a4 = zGate := if_neg h
    have e1 : ssC a0_0 a0_1 a1_0 a1_1 a1_2 a2 a3 a4 = sc3 (ssV a0_0 a0_1 a1_1 a1_2) (ssR a2 a3 a4) := if_neg h
    rw [e0, e1]
    clear e0 e1
    by_cases hs : slOk a0_0 a0_1
    · by_cases hg : gtOk a1_1 a1_2
      · by_cases hord : 0 ≤ a2 ∧ a2 ≤ 2
        · by_cases hi : slv a3
          · have ho : ¬ slv a4 := fun q => h ⟨⟨hs, hg⟩, hord, hi, q⟩
            have HV1 := Lib.hid (show true = decide (slOk a0_0 a0_1) from (decide_eq_true hs).symm)
            have HV2 := Lib.hid (show true = decide (gtOk a1_1 a1_2) from (decide_eq_true hg).symm)
            have HL1 := Lib.hid (show true = decide (slv a3) from (decide_eq_true hi).symm)
            have HL2 := Lib.hid (show false = decide (slv a4) from (decide_eq_false ho).symm)
            clear h
            rw [show sc3 (ssV a0_0 a0_1 a1_1 a1_2) (ssR a2 a3 a4) = 2 from sc3_no ⟨hs, hg⟩ (fun q => ho q.2.2)]
            go_enter Try.func12, Try.ntmps12
            go_wp2_with fail
            have ST := Lib.hid (show StB w (((w.alloc (.cells #[.int .i64 a0_0, .int .i64 a0_1] 26)).alloc (.cells #[.bool a1_0, .int .i64 a1_1, .int .i64 a1_2] 31)).alloc (.cells #[.bool false, .int .i64 0, .int .i64 0] 31)) a0_0 a0_1 a1_0 a1_1 a1_2 from ⟨(by repeat (first | assumption | exact Below.refl _ _ | (refine Below.setCell ?_ (by first | omega | (simp; done) | (simp; omega)) _) | apply below_drewN | apply Below.drew | (refine Below.alloc ?_ (by first | omega | (simp; done) | (simp; omega)) _))), (by first | omega | (simp; done) | (simp; omega)), (by first | omega | (simp; done) | (simp; omega)), (by first | omega | (simp; done) | (simp; omega)), (by first | (simp; done) | go_simp), (by first | (simp; done) | go_simp), (by first | (simp; done) | go_simp), (by first | (simp; done) | go_simp), (by first | (simp; done) | go_simp), (by first | (simp; done) | go_simp), (by first | (simp; done) | go_simp), (by first | (simp; done) | go_simp), (by first | (simp; done) | go_simp), (by first | (simp; done) | go_simp), (by first | (simp; done) | go_simp)⟩)
            generalize (((w.alloc (.cells #[.int .i64 a0_0, .int .i64 a0_1] 26)).alloc (.cells #[.bool a1_0, .int .i64 a1_1, .int .i64 a1_2] 31)).alloc (.cells #[.bool false, .int .i64 0, .int .i64 0] 31)) = W0 at ST ⊢
            have l0 := ST.out.l0
            have l1 := ST.out.l1
            have l2 := ST.out.l2
            have c0_0 := ST.out.c0_0
            have c0_1 := ST.out.c0_1
            have c1_0 := ST.out.c1_0
            have c1_1 := ST.out.c1_1
            have c1_2 := ST.out.c1_2
            have c2_0 := ST.out.c2_0
            have f2_0 := ST.out.f2_0
            have c2_1 := ST.out.c2_1
            have f2_1 := ST.out.f2_1
            have c2_2 := ST.out.c2_2
            have f2_2 := ST.out.f2_2
            go_wp2_with (first | (go_at_call 44; refine (sluS_any _ _ _ _ HV1.out).mono ?_; rintro en Wn ⟨rfl, bn⟩; replace ST := Lib.hid (ST.out.step (by first | exact Below.refl _ _ | exact (by repeat (first | assumption | exact Below.refl _ _ | (refine Below.setCell ?_ (by first | omega | (simp; done) | (simp; omega)) _) | apply below_drewN | apply Below.drew | (refine Below.alloc ?_ (by first | omega | (simp; done) | (simp; omega)) _)))) bn); replace l0 := ST.out.l0; replace l1 := ST.out.l1; replace l2 := ST.out.l2; replace c0_0 := ST.out.c0_0; replace c0_1 := ST.out.c0_1; replace c1_0 := ST.out.c1_0; replace c1_1 := ST.out.c1_1; replace c1_2 := ST.out.c1_2; replace c2_0 := ST.out.c2_0; replace f2_0 := ST.out.f2_0; replace c2_1 := ST.out.c2_1; replace f2_1 := ST.out.f2_1; replace c2_2 := ST.out.c2_2; replace f2_2 := ST.out.f2_2; clear bn) | (go_at_call 45; refine (gtS_any _ _ _ _ _ HV2.out).mono ?_; rintro en Wn ⟨rfl, bn⟩; replace ST := Lib.hid (ST.out.step (by first | exact Below.refl _ _ | exact (by repeat (first | assumption | exact Below.refl _ _ | (refine Below.setCell ?_ (by first | omega | (simp; done) | (simp; omega)) _) | apply below_drewN | apply Below.drew | (refine Below.alloc ?_ (by first | omega | (simp; done) | (simp; omega)) _)))) bn); replace l0 := ST.out.l0; replace l1 := ST.out.l1; replace l2 := ST.out.l2; replace c0_0 := ST.out.c0_0; replace c0_1 := ST.out.c0_1; replace c1_0 := ST.out.c1_0; replace c1_1 := ST.out.c1_1; replace c1_2 := ST.out.c1_2; replace c2_0 := ST.out.c2_0; replace f2_0 := ST.out.f2_0; replace c2_1 := ST.out.c2_1; replace f2_1 := ST.out.f2_1; replace c2_2 := ST.out.c2_2; replace f2_2 := ST.out.f2_2; clear bn) | (go_at_call 46; first | (refine (in_t _ _ _ _ (by omega)).mono ?_; rintro e w' ⟨rfl, rfl⟩) | (refine (in_f _ _ _ _ (by omega)).mono ?_; rintro e w' ⟨rfl, rfl⟩)) | (go_at_call 47; have := tok; refine (slvS_any a4 _ _ HL2.out).mono ?_; rintro en wn ⟨rfl, rfl⟩) | (go_at_call 47; refine (slvS_any a3 _ _ HL1.out).mono ?_; rintro en wn ⟨rfl, rfl⟩; have tok : True := trivial))
            exact bodyPost_ret (v := .tuple #[.agg #[.bool false, .int .i64 0, .int .i64 0], .int .i64 2]) (by simp [results, Try.results12, go_sem, c2_0, c2_1, c2_2]) rfl ⟨rfl, (by repeat (first | assumption | exact Below.refl _ _ | (refine Below.trans ?_ (ST.out.D.mono (by first | omega | (simp; done) | (simp; omega)))) | (refine Below.setCell ?_ (by first | omega | (simp; done) | (simp; omega)) _) | apply below_drewN | apply Below.drew | (refine Below.alloc ?_ (by first | omega | (simp; done) | (simp; omega)) _)))⟩
          · have HV1 := Lib.hid (show true = decide (slOk a0_0 a0_1) from (decide_eq_true hs).symm)
            have HV2 := Lib.hid (show true = decide (gtOk a1_1 a1_2) from (decide_eq_true hg).symm)
            have HL1 := Lib.hid (show false = decide (slv a3) from (decide_eq_false hi).symm)
            rw [show sc3 (ssV a0_0 a0_1 a1_1 a1_2) (ssR a2 a3 a4) = 2 from sc3_no ⟨hs, hg⟩ (fun q => hi q.2.1)]
            go_enter Try.func12, Try.ntmps12
            go_wp2_with fail
            have ST := Lib.hid (show StB w (((w.alloc (.cells #[.int .i64 a0_0, .int .i64 a0_1] 26)).alloc (.cells #[.bool a1_0, .int .i64 a1_1, .int .i64 a1_2] 31)).alloc (.cells #[.bool false, .int .i64 0, .int .i64 0] 31)) a0_0 a0_1 a1_0 a1_1 a1_2 from ⟨(by repeat (first | assumption | exact Below.refl _ _ | (refine Below.setCell ?_ (by first | omega | (simp; done) | (simp; omega)) _) | apply below_drewN | apply Below.drew | (refine Below.alloc ?_ (by first | omega | (simp; done) | (simp; omega)) _))), (by first | omega | (simp; done) | (simp; omega)), (by first | omega | (simp; done) | (simp; omega)), (by first | omega | (simp; done) | (simp; omega)), (by first | (simp; done) | go_simp), (by first | (simp; done) | go_simp), (by first | (simp; done) | go_simp), (by first | (simp; done) | go_simp), (by first | (simp; done) | go_simp), (by first | (simp; done) | go_simp), (by first | (simp; done) | go_simp), (by first | (simp; done) | go_simp), (by first | (simp; done) | go_simp), (by first | (simp; done) | go_simp), (by first | (simp; done) | go_simp)⟩)
            generalize (((w.alloc (.cells #[.int .i64 a0_0, .int .i64 a0_1] 26)).alloc (.cells #[.bool a1_0, .int .i64 a1_1, .int .i64 a1_2] 31)).alloc (.cells #[.bool false, .int .i64 0, .int .i64 0] 31)) = W0 at ST ⊢
            have l0 := ST.out.l0
            have l1 := ST.out.l1
            have l2 := ST.out.l2
            have c0_0 := ST.out.c0_0
            have c0_1 := ST.out.c0_1
            have c1_0 := ST.out.c1_0
            have c1_1 := ST.out.c1_1
            have c1_2 := ST.out.c1_2
            have c2_0 := ST.out.c2_0
            have f2_0 := ST.out.f2_0
            have c2_1 := ST.out.c2_1
            have f2_1 := ST.out.f2_1
            have c2_2 := ST.out.c2_2
            have f2_2 := ST.out.f2_2
            go_wp2_with (first | (go_at_call 44; refine (sluS_any _ _ _ _ HV1.out).mono ?_; rintro en Wn ⟨rfl, bn⟩; replace ST := Lib.hid (ST.out.step (by first | exact Below.refl _ _ | exact (by repeat (first | assumption | exact Below.refl _ _ | (refine Below.setCell ?_ (by first | omega | (simp; done) | (simp; omega)) _) | apply below_drewN | apply Below.drew | (refine Below.alloc ?_ (by first | omega | (simp; done) | (simp; omega)) _)))) bn); replace l0 := ST.out.l0; replace l1 := ST.out.l1; replace l2 := ST.out.l2; replace c0_0 := ST.out.c0_0; replace c0_1 := ST.out.c0_1; replace c1_0 := ST.out.c1_0; replace c1_1 := ST.out.c1_1; replace c1_2 := ST.out.c1_2; replace c2_0 := ST.out.c2_0; replace f2_0 := ST.out.f2_0; replace c2_1 := ST.out.c2_1; replace f2_1 := ST.out.f2_1; replace c2_2 := ST.out.c2_2; replace f2_2 := ST.out.f2_2; clear bn) | (go_at_call 45; refine (gtS_any _ _ _ _ _ HV2.out).mono ?_; rintro en Wn ⟨rfl, bn⟩; replace ST := Lib.hid (ST.out.step (by first | exact Below.refl _ _ | exact (by repeat (first | assumption | exact Below.refl _ _ | (refine Below.setCell ?_ (by first | omega | (simp; done) | (simp; omega)) _) | apply below_drewN | apply Below.drew | (refine Below.alloc ?_ (by first | omega | (simp; done) | (simp; omega)) _)))) bn); replace l0 := ST.out.l0; replace l1 := ST.out.l1; replace l2 := ST.out.l2; replace c0_0 := ST.out.c0_0; replace c0_1 := ST.out.c0_1; replace c1_0 := ST.out.c1_0; replace c1_1 := ST.out.c1_1; replace c1_2 := ST.out.c1_2; replace c2_0 := ST.out.c2_0; replace f2_0 := ST.out.f2_0; replace c2_1 := ST.out.c2_1; replace f2_1 := ST.out.f2_1; replace c2_2 := ST.out.c2_2; replace f2_2 := ST.out.f2_2; clear bn) | (go_at_call 46; first | (refine (in_t _ _ _ _ (by omega)).mono ?_; rintro e w' ⟨rfl, rfl⟩) | (refine (in_f _ _ _ _ (by omega)).mono ?_; rintro e w' ⟨rfl, rfl⟩)) | (go_at_call 47; have := tok; refine (slvS_any a4 _ _ HL2.out).mono ?_; rintro en wn ⟨rfl, rfl⟩) | (go_at_call 47; refine (slvS_any a3 _ _ HL1.out).mono ?_; rintro en wn ⟨rfl, rfl⟩; have tok : True := trivial))
            exact bodyPost_ret (v := .tuple #[.agg #[.bool false, .int .i64 0, .int .i64 0], .int .i64 2]) (by simp [results, Try.results12, go_sem, c2_0, c2_1, c2_2]) rfl ⟨rfl, (by repeat (first | assumption | exact Below.refl _ _ | (refine Below.trans ?_ (ST.out.D.mono (by first | omega | (simp; done) | (simp; omega)))) | (refine Below.setCell ?_ (by first | omega | (simp; done) | (simp; omega)) _) | apply below_drewN | apply Below.drew | (refine Below.alloc ?_ (by first | omega | (simp; done) | (simp; omega)) _)))⟩
        · have hord' : a2 < 0 ∨ 2 < a2 := by omega
          have HV1 := Lib.hid (show true = decide (slOk a0_0 a0_1) from (decide_eq_true hs).symm)
          have HV2 := Lib.hid (show true = decide (gtOk a1_1 a1_2) from (decide_eq_true hg).symm)
          rw [show sc3 (ssV a0_0 a0_1 a1_1 a1_2) (ssR a2 a3 a4) = 2 from sc3_no ⟨hs, hg⟩ (fun q => hord q.1)]
          go_enter Try.func12, Try.ntmps12
          go_wp2_with fail
          have ST := Lib.hid (show StB w (((w.alloc (.cells #[.int .i64 a0_0, .int .i64 a0_1] 26)).alloc (.cells #[.bool a1_0, .int .i64 a1_1, .int .i64 a1_2] 31)).alloc (.cells #[.bool false, .int .i64 0, .int .i64 0] 31)) a0_0 a0_1 a1_0 a1_1 a1_2 from ⟨(by repeat (first | assumption | exact Below.refl _ _ | (refine Below.setCell ?_ (by first | omega | (simp; done) | (simp; omega)) _) | apply below_drewN | apply Below.drew | (refine Below.alloc ?_ (by first | omega | (simp; done) | (simp; omega)) _))), (by first | omega | (simp; done) | (simp; omega)), (by first | omega | (simp; done) | (simp; omega)), (by first | omega | (simp; done) | (simp; omega)), (by first | (simp; done) | go_simp), (by first | (simp; done) | go_simp), (by first | (simp; done) | go_simp), (by first | (simp; done) | go_simp), (by first | (simp; done) | go_simp), (by first | (simp; done) | go_simp), (by first | (simp; done) | go_simp), (by first | (simp; done) | go_simp), (by first | (simp; done) | go_simp), (by first | (simp; done) | go_simp), (by first | (simp; done) | go_simp)⟩)
          generalize (((w.alloc (.cells #[.int .i64 a0_0, .int .i64 a0_1] 26)).alloc (.cells #[.bool a1_0, .int .i64 a1_1, .int .i64 a1_2] 31)).alloc (.cells #[.bool false, .int .i64 0, .int .i64 0] 31)) = W0 at ST ⊢
          have l0 := ST.out.l0
          have l1 := ST.out.l1
          have l2 := ST.out.l2
          have c0_0 := ST.out.c0_0
          have c0_1 := ST.out.c0_1
          have c1_0 := ST.out.c1_0
          have c1_1 := ST.out.c1_1
          have c1_2 := ST.out.c1_2
          have c2_0 := ST.out.c2_0
          have f2_0 := ST.out.f2_0
          have c2_1 := ST.out.c2_1
          have f2_1 := ST.out.f2_1
          have c2_2 := ST.out.c2_2
          have f2_2 := ST.out.f2_2
          go_wp2_with (first | (go_at_call 44; refine (sluS_any _ _ _ _ HV1.out).mono ?_; rintro en Wn ⟨rfl, bn⟩; replace ST := Lib.hid (ST.out.step (by first | exact Below.refl _ _ | exact (by repeat (first | assumption | exact Below.refl _ _ | (refine Below.setCell ?_ (by first | omega | (simp; done) | (simp; omega)) _) | apply below_drewN | apply Below.drew | (refine Below.alloc ?_ (by first | omega | (simp; done) | (simp; omega)) _)))) bn); replace l0 := ST.out.l0; replace l1 := ST.out.l1; replace l2 := ST.out.l2; replace c0_0 := ST.out.c0_0; replace c0_1 := ST.out.c0_1; replace c1_0 := ST.out.c1_0; replace c1_1 := ST.out.c1_1; replace c1_2 := ST.out.c1_2; replace c2_0 := ST.out.c2_0; replace f2_0 := ST.out.f2_0; replace c2_1 := ST.out.c2_1; replace f2_1 := ST.out.f2_1; replace c2_2 := ST.out.c2_2; replace f2_2 := ST.out.f2_2; clear bn) | (go_at_call 45; refine (gtS_any _ _ _ _ _ HV2.out).mono ?_; rintro en Wn ⟨rfl, bn⟩; replace ST := Lib.hid (ST.out.step (by first | exact Below.refl _ _ | exact (by repeat (first | assumption | exact Below.refl _ _ | (refine Below.setCell ?_ (by first | omega | (simp; done) | (simp; omega)) _) | apply below_drewN | apply Below.drew | (refine Below.alloc ?_ (by first | omega | (simp; done) | (simp; omega)) _)))) bn); replace l0 := ST.out.l0; replace l1 := ST.out.l1; replace l2 := ST.out.l2; replace c0_0 := ST.out.c0_0; replace c0_1 := ST.out.c0_1; replace c1_0 := ST.out.c1_0; replace c1_1 := ST.out.c1_1; replace c1_2 := ST.out.c1_2; replace c2_0 := ST.out.c2_0; replace f2_0 := ST.out.f2_0; replace c2_1 := ST.out.c2_1; replace f2_1 := ST.out.f2_1; replace c2_2 := ST.out.c2_2; replace f2_2 := ST.out.f2_2; clear bn) | (go_at_call 46; first | (refine (in_t _ _ _ _ (by omega)).mono ?_; rintro e w' ⟨rfl, rfl⟩) | (refine (in_f _ _ _ _ (by omega)).mono ?_; rintro e w' ⟨rfl, rfl⟩)) | (go_at_call 47; have := tok; refine (slvS_any a4 _ _ HL2.out).mono ?_; rintro en wn ⟨rfl, rfl⟩) | (go_at_call 47; refine (slvS_any a3 _ _ HL1.out).mono ?_; rintro en wn ⟨rfl, rfl⟩; have tok : True := trivial))
          exact bodyPost_ret (v := .tuple #[.agg #[.bool false, .int .i64 0, .int .i64 0], .int .i64 2]) (by simp [results, Try.results12, go_sem, c2_0, c2_1, c2_2]) rfl ⟨rfl, (by repeat (first | assumption | exact Below.refl _ _ | (refine Below.trans ?_ (ST.out.D.mono (by first | omega | (simp; done) | (simp; omega)))) | (refine Below.setCell ?_ (by first | omega | (simp; done) | (simp; omega)) _) | apply below_drewN | apply Below.drew | (refine Below.alloc ?_ (by first | omega | (simp; done) | (simp; omega)) _)))⟩
      · have HV1 := Lib.hid (show true = decide (slOk a0_0 a0_1) from (decide_eq_true hs).symm)
        have HV2 := Lib.hid (show false = decide (gtOk a1_1 a1_2) from (decide_eq_false hg).symm)
        rw [show sc3 (ssV a0_0 a0_1 a1_1 a1_2) (ssR a2 a3 a4) = 1 from sc3_bad (fun q => hg q.2)]
        go_enter Try.func12, Try.ntmps12
        go_wp2_with fail
        have ST := Lib.hid (show StB w (((w.alloc (.cells #[.int .i64 a0_0, .int .i64 a0_1] 26)).alloc (.cells #[.bool a1_0, .int .i64 a1_1, .int .i64 a1_2] 31)).alloc (.cells #[.bool false, .int .i64 0, .int .i64 0] 31)) a0_0 a0_1 a1_0 a1_1 a1_2 from ⟨(by repeat (first | assumption | exact Below.refl _ _ | (refine Below.setCell ?_ (by first | omega | (simp; done) | (simp; omega)) _) | apply below_drewN | apply Below.drew | (refine Below.alloc ?_ (by first | omega | (simp; done) | (simp; omega)) _))), (by first | omega | (simp; done) | (simp; omega)), (by first | omega | (simp; done) | (simp; omega)), (by first | omega | (simp; done) | (simp; omega)), (by first | (simp; done) | go_simp), (by first | (simp; done) | go_simp), (by first | (simp; done) | go_simp), (by first | (simp; done) | go_simp), (by first | (simp; done) | go_simp), (by first | (simp; done) | go_simp), (by first | (simp; done) | go_simp), (by first | (simp; done) | go_simp), (by first | (simp; done) | go_simp), (by first | (simp; done) | go_simp), (by first | (simp; done) | go_simp)⟩)
        generalize (((w.alloc (.cells #[.int .i64 a0_0, .int .i64 a0_1] 26)).alloc (.cells #[.bool a1_0, .int .i64 a1_1, .int .i64 a1_2] 31)).alloc (.cells #[.bool false, .int .i64 0, .int .i64 0] 31)) = W0 at ST ⊢
        have l0 := ST.out.l0
        have l1 := ST.out.l1
        have l2 := ST.out.l2
        have c0_0 := ST.out.c0_0
        have c0_1 := ST.out.c0_1
        have c1_0 := ST.out.c1_0
        have c1_1 := ST.out.c1_1
        have c1_2 := ST.out.c1_2
        have c2_0 := ST.out.c2_0
        have f2_0 := ST.out.f2_0
        have c2_1 := ST.out.c2_1
        have f2_1 := ST.out.f2_1
        have c2_2 := ST.out.c2_2
        have f2_2 := ST.out.f2_2
        go_wp2_with (first | (go_at_call 44; refine (sluS_any _ _ _ _ HV1.out).mono ?_; rintro en Wn ⟨rfl, bn⟩; replace ST := Lib.hid (ST.out.step (by first | exact Below.refl _ _ | exact (by repeat (first | assumption | exact Below.refl _ _ | (refine Below.setCell ?_ (by first | omega | (simp; done) | (simp; omega)) _) | apply below_drewN | apply Below.drew | (refine Below.alloc ?_ (by first | omega | (simp; done) | (simp; omega)) _)))) bn); replace l0 := ST.out.l0; replace l1 := ST.out.l1; replace l2 := ST.out.l2; replace c0_0 := ST.out.c0_0; replace c0_1 := ST.out.c0_1; replace c1_0 := ST.out.c1_0; replace c1_1 := ST.out.c1_1; replace c1_2 := ST.out.c1_2; replace c2_0 := ST.out.c2_0; replace f2_0 := ST.out.f2_0; replace c2_1 := ST.out.c2_1; replace f2_1 := ST.out.f2_1; replace c2_2 := ST.out.c2_2; replace f2_2 := ST.out.f2_2; clear bn) | (go_at_call 45; refine (gtS_any _ _ _ _ _ HV2.out).mono ?_; rintro en Wn ⟨rfl, bn⟩; replace ST := Lib.hid (ST.out.step (by first | exact Below.refl _ _ | exact (by repeat (first | assumption | exact Below.refl _ _ | (refine Below.setCell ?_ (by first | omega | (simp; done) | (simp; omega)) _) | apply below_drewN | apply Below.drew | (refine Below.alloc ?_ (by first | omega | (simp; done) | (simp; omega)) _)))) bn); replace l0 := ST.out.l0; replace l1 := ST.out.l1; replace l2 := ST.out.l2; replace c0_0 := ST.out.c0_0; replace c0_1 := ST.out.c0_1; replace c1_0 := ST.out.c1_0; replace c1_1 := ST.out.c1_1; replace c1_2 := ST.out.c1_2; replace c2_0 := ST.out.c2_0; replace f2_0 := ST.out.f2_0; replace c2_1 := ST.out.c2_1; replace f2_1 := ST.out.f2_1; replace c2_2 := ST.out.c2_2; replace f2_2 := ST.out.f2_2; clear bn) | (go_at_call 46; first | (refine (in_t _ _ _ _ (by omega)).mono ?_; rintro e w' ⟨rfl, rfl⟩) | (refine (in_f _ _ _ _ (by omega)).mono ?_; rintro e w' ⟨rfl, rfl⟩)) | (go_at_call 47; have := tok; refine (slvS_any a4 _ _ HL2.out).mono ?_; rintro en wn ⟨rfl, rfl⟩) | (go_at_call 47; refine (slvS_any a3 _ _ HL1.out).mono ?_; rintro en wn ⟨rfl, rfl⟩; have tok : True := trivial))
        exact bodyPost_ret (v := .tuple #[.agg #[.bool false, .int .i64 0, .int .i64 0], .int .i64 1]) (by simp [results, Try.results12, go_sem, c2_0, c2_1, c2_2]) rfl ⟨rfl, (by repeat (first | assumption | exact Below.refl _ _ | (refine Below.trans ?_ (ST.out.D.mono (by first | omega | (simp; done) | (simp; omega)))) | (refine Below.setCell ?_ (by first | omega | (simp; done) | (simp; omega)) _) | apply below_drewN | apply Below.drew | (refine Below.alloc ?_ (by first | omega | (simp; done) | (simp; omega)) _)))⟩
    · have HV1 := Lib.hid (show false = decide (slOk a0_0 a0_1) from (decide_eq_false hs).symm)
      rw [show sc3 (ssV a0_0 a0_1 a1_1 a1_2) (ssR a2 a3 a4) = 1 from sc3_bad (fun q => hs q.1)]
      go_enter Try.func12, Try.ntmps12
      go_wp2_with fail
      have ST := Lib.hid (show StB w (((w.alloc (.cells #[.int .i64 a0_0, .int .i64 a0_1] 26)).alloc (.cells #[.bool a1_0, .int .i64 a1_1, .int .i64 a1_2] 31)).alloc (.cells #[.bool false, .int .i64 0, .int .i64 0] 31)) a0_0 a0_1 a1_0 a1_1 a1_2 from ⟨(by repeat (first | assumption | exact Below.refl _ _ | (refine Below.setCell ?_ (by first | omega | (simp; done) | (simp; omega)) _) | apply below_drewN | apply Below.drew | (refine Below.alloc ?_ (by first | omega | (simp; done) | (simp; omega)) _))), (by first | omega | (simp; done) | (simp; omega)), (by first | omega | (simp; done) | (simp; omega)), (by first | omega | (simp; done) | (simp; omega)), (by first | (simp; done) | go_simp), (by first | (simp; done) | go_simp), (by first | (simp; done) | go_simp), (by first | (simp; done) | go_simp), (by first | (simp; done) | go_simp), (by first | (simp; done) | go_simp), (by first | (simp; done) | go_simp), (by first | (simp; done) | go_simp), (by first | (simp; done) | go_simp), (by first | (simp; done) | go_simp), (by first | (simp; done) | go_simp)⟩)
      generalize (((w.alloc (.cells #[.int .i64 a0_0, .int .i64 a0_1] 26)).alloc (.cells #[.bool a1_0, .int .i64 a1_1, .int .i64 a1_2] 31)).alloc (.cells #[.bool false, .int .i64 0, .int .i64 0] 31)) = W0 at ST ⊢
      have l0 := ST.out.l0
      have l1 := ST.out.l1
      have l2 := ST.out.l2
      have c0_0 := ST.out.c0_0
      have c0_1 := ST.out.c0_1
      have c1_0 := ST.out.c1_0
      have c1_1 := ST.out.c1_1
      have c1_2 := ST.out.c1_2
      have c2_0 := ST.out.c2_0
      have f2_0 := ST.out.f2_0
      have c2_1 := ST.out.c2_1
      have f2_1 := ST.out.f2_1
      have c2_2 := ST.out.c2_2
      have f2_2 := ST.out.f2_2
      go_wp2_with (first | (go_at_call 44; refine (sluS_any _ _ _ _ HV1.out).mono ?_; rintro en Wn ⟨rfl, bn⟩; replace ST := Lib.hid (ST.out.step (by first | exact Below.refl _ _ | exact (by repeat (first | assumption | exact Below.refl _ _ | (refine Below.setCell ?_ (by first | omega | (simp; done) | (simp; omega)) _) | apply below_drewN | apply Below.drew | (refine Below.alloc ?_ (by first | omega | (simp; done) | (simp; omega)) _)))) bn); replace l0 := ST.out.l0; replace l1 := ST.out.l1; replace l2 := ST.out.l2; replace c0_0 := ST.out.c0_0; replace c0_1 := ST.out.c0_1; replace c1_0 := ST.out.c1_0; replace c1_1 := ST.out.c1_1; replace c1_2 := ST.out.c1_2; replace c2_0 := ST.out.c2_0; replace f2_0 := ST.out.f2_0; replace c2_1 := ST.out.c2_1; replace f2_1 := ST.out.f2_1; replace c2_2 := ST.out.c2_2; replace f2_2 := ST.out.f2_2; clear bn) | (go_at_call 45; refine (gtS_any _ _ _ _ _ HV2.out).mono ?_; rintro en Wn ⟨rfl, bn⟩; replace ST := Lib.hid (ST.out.step (by first | exact Below.refl _ _ | exact (by repeat (first | assumption | exact Below.refl _ _ | (refine Below.setCell ?_ (by first | omega | (simp; done) | (simp; omega)) _) | apply below_drewN | apply Below.drew | (refine Below.alloc ?_ (by first | omega | (simp; done) | (simp; omega)) _)))) bn); replace l0 := ST.out.l0; replace l1 := ST.out.l1; replace l2 := ST.out.l2; replace c0_0 := ST.out.c0_0; replace c0_1 := ST.out.c0_1; replace c1_0 := ST.out.c1_0; replace c1_1 := ST.out.c1_1; replace c1_2 := ST.out.c1_2; replace c2_0 := ST.out.c2_0; replace f2_0 := ST.out.f2_0; replace c2_1 := ST.out.c2_1; replace f2_1 := ST.out.f2_1; replace c2_2 := ST.out.c2_2; replace f2_2 := ST.out.f2_2; clear bn) | (go_at_call 46; first | (refine (in_t _ _ _ _ (by omega)).mono ?_; rintro e w' ⟨rfl, rfl⟩) | (refine (in_f _ _ _ _ (by omega)).mono ?_; rintro e w' ⟨rfl, rfl⟩)) | (go_at_call 47; have := tok; refine (slvS_any a4 _ _ HL2.out).mono ?_; rintro en wn ⟨rfl, rfl⟩) | (go_at_call 47; refine (slvS_any a3 _ _ HL1.out).mono ?_; rintro en wn ⟨rfl, rfl⟩; have tok : True := trivial))
      exact bodyPost_ret (v := .tuple #[.agg #[.bool false, .int .i64 0, .int .i64 0], .int .i64 1]) (by simp [results, Try.results12, go_sem, c2_0, c2_1, c2_2]) rfl ⟨rfl, (by repeat (first | assumption | exact Below.refl _ _ | (refine Below.trans ?_ (ST.out.D.mono (by first | omega | (simp; done) | (simp; omega)))) | (refine Below.setCell ?_ (by first | omega | (simp; done) | (simp; omega)) _) | apply below_drewN | apply Below.drew | (refine Below.alloc ?_ (by first | omega | (simp; done) | (simp; omega)) _)))⟩

set_option maxRecDepth 100000 in
set_option maxHeartbeats 6400000 in
theorem implC_StepSluice (a0_0 : Int) (a0_1 : Int) (a1_0 : Bool) (a1_1 : Int) (a1_2 : Int) (a2 : Int) (a3 : Int) (a4 : Int) (w : World) (ha0_0 : (Lit.int .i64 a0_0).wf = true) (ha0_1 : (Lit.int .i64 a0_1).wf = true) (ha1_1 : (Lit.int .i64 a1_1).wf = true) (ha1_2 : (Lit.int .i64 a1_2).wf = true) (ha2 : (Lit.int .i64 a2).wf = true) (ha3 : (Lit.int .i64 a3).wf = true) (ha4 : (Lit.int .i64 a4).wf = true) :
    Calls Try.prog 14 #[.agg #[.int .i64 a0_0, .int .i64 a0_1], .agg #[.bool a1_0, .int .i64 a1_1, .int .i64 a1_2], .int .i64 a2, .int .i64 a3, .int .i64 a4] w fun e w' => e = .returned (.tuple #[.agg #[.bool (r0_StepSluice a0_0 a0_1 a1_0 a1_1 a1_2 a2 a3 a4), .int .i64 (r1_StepSluice a0_0 a0_1 a1_0 a1_1 a1_2 a2 a3 a4), .int .i64 (r2_StepSluice a0_0 a0_1 a1_0 a1_1 a1_2 a2 a3 a4)], .int .i64 (r3_StepSluice a0_0 a0_1 a1_0 a1_1 a1_2 a2 a3 a4)]) ∧ Below w.heap.size w w' := by
  unfold r0_StepSluice r1_StepSluice r2_StepSluice r3_StepSluice
  by_cases h : ssV a0_0 a0_1 a1_1 a1_2 ∧ ssR a2 a3 a4
  · have e0 : ssG a0_0 a0_1 a1_0 a1_1 a1_2 a2 a3 a4 = stG a0_0 a0_1 a2 a3 a4 ⟨a1_0, a1_1, a1_2⟩ := if_pos h
    have e1 : ssC a0_0 a0_1 a1_0 a1_1 a1_2 a2 a3 a4 = stC a0_0 a0_1 a2 a3 a4 ⟨a1_0, a1_1, a1_2⟩ := if_pos h
    rw [e0, e1]
    clear e0 e1
    obtain ⟨⟨hs, hg⟩, hord, hi, ho⟩ := h
    have HV1 := Lib.hid (show true = decide (slOk a0_0 a0_1) from (decide_eq_true hs).symm)
    have HV2 := Lib.hid (show true = decide (gtOk a1_1 a1_2) from (decide_eq_true hg).symm)
    have HO := Lib.hid (show allIn 0 2 1 [a2] from allIn_one.2 hord)
    have HL := Lib.hid (show allIn (-2000) 2000 2 [a3, a4] from allIn_two.2 ⟨hi, ho⟩)
    have HT := Lib.hid (fun b W hk => step_t b a0_0 a0_1 a3 a4 a2 ⟨a1_0, a1_1, a1_2⟩ W hk hs hg hi ho hord _ rfl)
    have HG := Lib.hid (show stC a0_0 a0_1 a2 a3 a4 ⟨a1_0, a1_1, a1_2⟩ = 0 → nxN a0_0 a0_1 a2 a3 a4 ⟨a1_0, a1_1, a1_2⟩ = stG a0_0 a0_1 a2 a3 a4 ⟨a1_0, a1_1, a1_2⟩ from fun h => (if_pos h).symm)
    have HZ := Lib.hid (show stC a0_0 a0_1 a2 a3 a4 ⟨a1_0, a1_1, a1_2⟩ ≠ 0 → stG a0_0 a0_1 a2 a3 a4 ⟨a1_0, a1_1, a1_2⟩ = zGate from fun h => if_neg h)
    generalize stC a0_0 a0_1 a2 a3 a4 ⟨a1_0, a1_1, a1_2⟩ = C at *
    generalize stG a0_0 a0_1 a2 a3 a4 ⟨a1_0, a1_1, a1_2⟩ = G at *
    generalize nxN a0_0 a0_1 a2 a3 a4 ⟨a1_0, a1_1, a1_2⟩ = G' at *
    clear hs hg hi ho hord
    by_cases hC0 : C = 0
    · subst hC0
      have hgg := HG.out rfl
      subst hgg
      obtain ⟨G0, G1, G2⟩ := G'
      clear HG HZ
      simp only at HT ⊢
      go_enter Try.func14, Try.ntmps14
      go_wp2_with fail
      have ST := Lib.hid (show StB w (((w.alloc (.cells #[.int .i64 a0_0, .int .i64 a0_1] 26)).alloc (.cells #[.bool a1_0, .int .i64 a1_1, .int .i64 a1_2] 31)).alloc (.cells #[.bool false, .int .i64 0, .int .i64 0] 31)) a0_0 a0_1 a1_0 a1_1 a1_2 from ⟨(by repeat (first | assumption | exact Below.refl _ _ | (refine Below.setCell ?_ (by first | omega | (simp; done) | (simp; omega)) _) | apply below_drewN | apply Below.drew | (refine Below.alloc ?_ (by first | omega | (simp; done) | (simp; omega)) _))), (by first | omega | (simp; done) | (simp; omega)), (by first | omega | (simp; done) | (simp; omega)), (by first | omega | (simp; done) | (simp; omega)), (by first | (simp; done) | go_simp), (by first | (simp; done) | go_simp), (by first | (simp; done) | go_simp), (by first | (simp; done) | go_simp), (by first | (simp; done) | go_simp), (by first | (simp; done) | go_simp), (by first | (simp; done) | go_simp), (by first | (simp; done) | go_simp), (by first | (simp; done) | go_simp), (by first | (simp; done) | go_simp), (by first | (simp; done) | go_simp)⟩)
      generalize (((w.alloc (.cells #[.int .i64 a0_0, .int .i64 a0_1] 26)).alloc (.cells #[.bool a1_0, .int .i64 a1_1, .int .i64 a1_2] 31)).alloc (.cells #[.bool false, .int .i64 0, .int .i64 0] 31)) = W0 at ST ⊢
      have l0 := ST.out.l0
      have l1 := ST.out.l1
      have l2 := ST.out.l2
      have c0_0 := ST.out.c0_0
      have c0_1 := ST.out.c0_1
      have c1_0 := ST.out.c1_0
      have c1_1 := ST.out.c1_1
      have c1_2 := ST.out.c1_2
      have c2_0 := ST.out.c2_0
      have f2_0 := ST.out.f2_0
      have c2_1 := ST.out.c2_1
      have f2_1 := ST.out.f2_1
      have c2_2 := ST.out.c2_2
      have f2_2 := ST.out.f2_2
      go_wp2_with (first | (go_at_call 41; refine (sluI_any _ _ _ _ HV1.out).mono ?_; rintro en Wn ⟨rfl, bn⟩; replace ST := Lib.hid (ST.out.step (by first | exact Below.refl _ _ | exact (by repeat (first | assumption | exact Below.refl _ _ | (refine Below.setCell ?_ (by first | omega | (simp; done) | (simp; omega)) _) | apply below_drewN | apply Below.drew | (refine Below.alloc ?_ (by first | omega | (simp; done) | (simp; omega)) _)))) bn); replace l0 := ST.out.l0; replace l1 := ST.out.l1; replace l2 := ST.out.l2; replace c0_0 := ST.out.c0_0; replace c0_1 := ST.out.c0_1; replace c1_0 := ST.out.c1_0; replace c1_1 := ST.out.c1_1; replace c1_2 := ST.out.c1_2; replace c2_0 := ST.out.c2_0; replace f2_0 := ST.out.f2_0; replace c2_1 := ST.out.c2_1; replace f2_1 := ST.out.f2_1; replace c2_2 := ST.out.c2_2; replace f2_2 := ST.out.f2_2; clear bn) | (go_at_call 49; refine (gtI_any _ _ _ _ _ HV2.out).mono ?_; rintro en Wn ⟨rfl, bn⟩; replace ST := Lib.hid (ST.out.step (by first | exact Below.refl _ _ | exact (by repeat (first | assumption | exact Below.refl _ _ | (refine Below.setCell ?_ (by first | omega | (simp; done) | (simp; omega)) _) | apply below_drewN | apply Below.drew | (refine Below.alloc ?_ (by first | omega | (simp; done) | (simp; omega)) _)))) bn); replace l0 := ST.out.l0; replace l1 := ST.out.l1; replace l2 := ST.out.l2; replace c0_0 := ST.out.c0_0; replace c0_1 := ST.out.c0_1; replace c1_0 := ST.out.c1_0; replace c1_1 := ST.out.c1_1; replace c1_2 := ST.out.c1_2; replace c2_0 := ST.out.c2_0; replace f2_0 := ST.out.f2_0; replace c2_1 := ST.out.c2_1; replace f2_1 := ST.out.f2_1; replace c2_2 := ST.out.c2_2; replace f2_2 := ST.out.f2_2; clear bn) | (go_at_call 50; refine (areOrders_any _ _ _ [a2] _ (by omega) ((rd_one _ _ _).mono (by first | omega | (simp; done) | (simp; omega))) true ⟨fun _ => HO.out, fun _ => rfl⟩).mono ?_; rintro en Wn ⟨rfl, bn⟩; replace ST := Lib.hid (ST.out.step (by first | exact Below.refl _ _ | exact (by repeat (first | assumption | exact Below.refl _ _ | (refine Below.setCell ?_ (by first | omega | (simp; done) | (simp; omega)) _) | apply below_drewN | apply Below.drew | (refine Below.alloc ?_ (by first | omega | (simp; done) | (simp; omega)) _)))) bn); replace l0 := ST.out.l0; replace l1 := ST.out.l1; replace l2 := ST.out.l2; replace c0_0 := ST.out.c0_0; replace c0_1 := ST.out.c0_1; replace c1_0 := ST.out.c1_0; replace c1_1 := ST.out.c1_1; replace c1_2 := ST.out.c1_2; replace c2_0 := ST.out.c2_0; replace f2_0 := ST.out.f2_0; replace c2_1 := ST.out.c2_1; replace f2_1 := ST.out.f2_1; replace c2_2 := ST.out.c2_2; replace f2_2 := ST.out.f2_2; clear bn) | (go_at_call 42; refine (areLevels_any _ _ _ [a3, a4] _ (by omega) ((rd_two _ _ _ _).mono (by first | omega | (simp; done) | (simp; omega))) true ⟨fun _ => HL.out, fun _ => rfl⟩).mono ?_; rintro en Wn ⟨rfl, bn⟩; replace ST := Lib.hid (ST.out.step (by first | exact Below.refl _ _ | exact (by repeat (first | assumption | exact Below.refl _ _ | (refine Below.setCell ?_ (by first | omega | (simp; done) | (simp; omega)) _) | apply below_drewN | apply Below.drew | (refine Below.alloc ?_ (by first | omega | (simp; done) | (simp; omega)) _)))) bn); replace l0 := ST.out.l0; replace l1 := ST.out.l1; replace l2 := ST.out.l2; replace c0_0 := ST.out.c0_0; replace c0_1 := ST.out.c0_1; replace c1_0 := ST.out.c1_0; replace c1_1 := ST.out.c1_1; replace c1_2 := ST.out.c1_2; replace c2_0 := ST.out.c2_0; replace f2_0 := ST.out.f2_0; replace c2_1 := ST.out.c2_1; replace f2_1 := ST.out.f2_1; replace c2_2 := ST.out.c2_2; replace f2_2 := ST.out.f2_2; clear bn) | (go_at_call 40; refine (codeFor_k true true _ 0 rfl).mono ?_; rintro en wn ⟨rfl, rfl⟩) | (go_at_call 51; refine (HT.out _ _ ⟨(by first | omega | (simp; done) | (simp; omega)), by go_simp, by go_simp, by go_simp, by go_simp, by go_simp, by go_simp, by go_simp, by go_simp⟩).mono ?_; rintro en Wz ⟨rfl, gt, kt⟩; have z0 : Wz.cell? ⟨w.heap.size + 1 + 1, 0, none⟩ = _ := (gb_cell gt (by first | omega | (simp; done) | (simp; omega)) (by omega)).trans ((by go_simp : _ = some (Value.bool false))); have z1 : Wz.cell? ⟨w.heap.size + 1 + 1, 1, none⟩ = _ := (gb_cell gt (by first | omega | (simp; done) | (simp; omega)) (by omega)).trans ((by go_simp : _ = some (Value.int .i64 0))); have z2 : Wz.cell? ⟨w.heap.size + 1 + 1, 2, none⟩ = _ := (gb_cell gt (by first | omega | (simp; done) | (simp; omega)) (by omega)).trans ((by go_simp : _ = some (Value.int .i64 0))); have y0 : Wz.frozen? ⟨w.heap.size + 1 + 1, 0, none⟩ = _ := (gb_frozen gt (by first | omega | (simp; done) | (simp; omega)) (by omega)).trans ((by go_simp : _ = false)); have y1 : Wz.frozen? ⟨w.heap.size + 1 + 1, 1, none⟩ = _ := (gb_frozen gt (by first | omega | (simp; done) | (simp; omega)) (by omega)).trans ((by go_simp : _ = false)); have y2 : Wz.frozen? ⟨w.heap.size + 1 + 1, 2, none⟩ = _ := (gb_frozen gt (by first | omega | (simp; done) | (simp; omega)) (by omega)).trans ((by go_simp : _ = false)); have k0 := (kt (by trivial)).c2; have k1 := (kt (by trivial)).c3; have k2 := (kt (by trivial)).c4; simp only at k0 k1 k2; have DZ : Below w.heap.size w Wz := Below.grown (by exact (by repeat (first | assumption | exact Below.refl _ _ | (refine Below.trans ?_ (ST.out.D.mono (by first | omega | (simp; done) | (simp; omega)))) | (refine Below.setCell ?_ (by first | omega | (simp; done) | (simp; omega)) _) | apply below_drewN | apply Below.drew | (refine Below.alloc ?_ (by first | omega | (simp; done) | (simp; omega)) _)))) gt (by first | omega | (simp; done) | (simp; omega)) (fun k hk => by injection hk with hk; omega)))
      exact bodyPost_ret (v := .tuple #[.agg #[.bool G0, .int .i64 G1, .int .i64 G2], .int .i64 0]) (by simp [results, Try.results14, go_sem, z0, z1, z2, y0, y1, y2]) rfl ⟨rfl, (by repeat (first | assumption | exact Below.refl _ _ | (refine Below.trans ?_ (DZ.mono (by first | omega | (simp; done) | (simp; omega)))) | (refine Below.setCell ?_ (by first | omega | (simp; done) | (simp; omega)) _) | apply below_drewN | apply Below.drew | (refine Below.alloc ?_ (by first | omega | (simp; done) | (simp; omega)) _)))⟩
    · have hz := HZ.out hC0
      subst hz
      clear HG HZ
      have e4 : (C != 0) = true := by simpa using hC0
      go_enter Try.func14, Try.ntmps14
      go_wp2_with fail
      have ST := Lib.hid (show StB w (((w.alloc (.cells #[.int .i64 a0_0, .int .i64 a0_1] 26)).alloc (.cells #[.bool a1_0, .int .i64 a1_1, .int .i64 a1_2] 31)).alloc (.cells #[.bool false, .int .i64 0, .int .i64 0] 31)) a0_0 a0_1 a1_0 a1_1 a1_2 from ⟨(by repeat (first | assumption | exact Below.refl _ _ | (refine Below.setCell ?_ (by first | omega | (simp; done) | (simp; omega)) _) | apply below_drewN | apply Below.drew | (refine Below.alloc ?_ (by first | omega | (simp; done) | (simp; omega)) _))), (by first | omega | (simp; done) | (simp; omega)), (by first | omega | (simp; done) | (simp; omega)), (by first | omega | (simp; done) | (simp; omega)), (by first | (simp; done) | go_simp), (by first | (simp; done) | go_simp), (by first | (simp; done) | go_simp), (by first | (simp; done) | go_simp), (by first | (simp; done) | go_simp), (by first | (simp; done) | go_simp), (by first | (simp; done) | go_simp), (by first | (simp; done) | go_simp), (by first | (simp; done) | go_simp), (by first | (simp; done) | go_simp), (by first | (simp; done) | go_simp)⟩)
      generalize (((w.alloc (.cells #[.int .i64 a0_0, .int .i64 a0_1] 26)).alloc (.cells #[.bool a1_0, .int .i64 a1_1, .int .i64 a1_2] 31)).alloc (.cells #[.bool false, .int .i64 0, .int .i64 0] 31)) = W0 at ST ⊢
      have l0 := ST.out.l0
      have l1 := ST.out.l1
      have l2 := ST.out.l2
      have c0_0 := ST.out.c0_0
      have c0_1 := ST.out.c0_1
      have c1_0 := ST.out.c1_0
      have c1_1 := ST.out.c1_1
      have c1_2 := ST.out.c1_2
      have c2_0 := ST.out.c2_0
      have f2_0 := ST.out.f2_0
      have c2_1 := ST.out.c2_1
      have f2_1 := ST.out.f2_1
      have c2_2 := ST.out.c2_2
      have f2_2 := ST.out.f2_2
      go_wp2_with (first | (go_at_call 41; refine (sluI_any _ _ _ _ HV1.out).mono ?_; rintro en Wn ⟨rfl, bn⟩; replace ST := Lib.hid (ST.out.step (by first | exact Below.refl _ _ | exact (by repeat (first | assumption | exact Below.refl _ _ | (refine Below.setCell ?_ (by first | omega | (simp; done) | (simp; omega)) _) | apply below_drewN | apply Below.drew | (refine Below.alloc ?_ (by first | omega | (simp; done) | (simp; omega)) _)))) bn); replace l0 := ST.out.l0; replace l1 := ST.out.l1; replace l2 := ST.out.l2; replace c0_0 := ST.out.c0_0; replace c0_1 := ST.out.c0_1; replace c1_0 := ST.out.c1_0; replace c1_1 := ST.out.c1_1; replace c1_2 := ST.out.c1_2; replace c2_0 := ST.out.c2_0; replace f2_0 := ST.out.f2_0; replace c2_1 := ST.out.c2_1; replace f2_1 := ST.out.f2_1; replace c2_2 := ST.out.c2_2; replace f2_2 := ST.out.f2_2; clear bn) | (go_at_call 49; refine (gtI_any _ _ _ _ _ HV2.out).mono ?_; rintro en Wn ⟨rfl, bn⟩; replace ST := Lib.hid (ST.out.step (by first | exact Below.refl _ _ | exact (by repeat (first | assumption | exact Below.refl _ _ | (refine Below.setCell ?_ (by first | omega | (simp; done) | (simp; omega)) _) | apply below_drewN | apply Below.drew | (refine Below.alloc ?_ (by first | omega | (simp; done) | (simp; omega)) _)))) bn); replace l0 := ST.out.l0; replace l1 := ST.out.l1; replace l2 := ST.out.l2; replace c0_0 := ST.out.c0_0; replace c0_1 := ST.out.c0_1; replace c1_0 := ST.out.c1_0; replace c1_1 := ST.out.c1_1; replace c1_2 := ST.out.c1_2; replace c2_0 := ST.out.c2_0; replace f2_0 := ST.out.f2_0; replace c2_1 := ST.out.c2_1; replace f2_1 := ST.out.f2_1; replace c2_2 := ST.out.c2_2; replace f2_2 := ST.out.f2_2; clear bn) | (go_at_call 50; refine (areOrders_any _ _ _ [a2] _ (by omega) ((rd_one _ _ _).mono (by first | omega | (simp; done) | (simp; omega))) true ⟨fun _ => HO.out, fun _ => rfl⟩).mono ?_; rintro en Wn ⟨rfl, bn⟩; replace ST := Lib.hid (ST.out.step (by first | exact Below.refl _ _ | exact (by repeat (first | assumption | exact Below.refl _ _ | (refine Below.setCell ?_ (by first | omega | (simp; done) | (simp; omega)) _) | apply below_drewN | apply Below.drew | (refine Below.alloc ?_ (by first | omega | (simp; done) | (simp; omega)) _)))) bn); replace l0 := ST.out.l0; replace l1 := ST.out.l1; replace l2 := ST.out.l2; replace c0_0 := ST.out.c0_0; replace c0_1 := ST.out.c0_1; replace c1_0 := ST.out.c1_0; replace c1_1 := ST.out.c1_1; replace c1_2 := ST.out.c1_2; replace c2_0 := ST.out.c2_0; replace f2_0 := ST.out.f2_0; replace c2_1 := ST.out.c2_1; replace f2_1 := ST.out.f2_1; replace c2_2 := ST.out.c2_2; replace f2_2 := ST.out.f2_2; clear bn) | (go_at_call 42; refine (areLevels_any _ _ _ [a3, a4] _ (by omega) ((rd_two _ _ _ _).mono (by first | omega | (simp; done) | (simp; omega))) true ⟨fun _ => HL.out, fun _ => rfl⟩).mono ?_; rintro en Wn ⟨rfl, bn⟩; replace ST := Lib.hid (ST.out.step (by first | exact Below.refl _ _ | exact (by repeat (first | assumption | exact Below.refl _ _ | (refine Below.setCell ?_ (by first | omega | (simp; done) | (simp; omega)) _) | apply below_drewN | apply Below.drew | (refine Below.alloc ?_ (by first | omega | (simp; done) | (simp; omega)) _)))) bn); replace l0 := ST.out.l0; replace l1 := ST.out.l1; replace l2 := ST.out.l2; replace c0_0 := ST.out.c0_0; replace c0_1 := ST.out.c0_1; replace c1_0 := ST.out.c1_0; replace c1_1 := ST.out.c1_1; replace c1_2 := ST.out.c1_2; replace c2_0 := ST.out.c2_0; replace f2_0 := ST.out.f2_0; replace c2_1 := ST.out.c2_1; replace f2_1 := ST.out.f2_1; replace c2_2 := ST.out.c2_2; replace f2_2 := ST.out.f2_2; clear bn) | (go_at_call 40; refine (codeFor_k true true _ 0 rfl).mono ?_; rintro en wn ⟨rfl, rfl⟩) | (go_at_call 51; refine (HT.out _ _ ⟨(by first | omega | (simp; done) | (simp; omega)), by go_simp, by go_simp, by go_simp, by go_simp, by go_simp, by go_simp, by go_simp, by go_simp⟩).mono ?_; rintro en Wz ⟨rfl, gt, kt⟩; have z0 : Wz.cell? ⟨w.heap.size + 1 + 1, 0, none⟩ = _ := (gb_cell gt (by first | omega | (simp; done) | (simp; omega)) (by omega)).trans ((by go_simp : _ = some (Value.bool false))); have z1 : Wz.cell? ⟨w.heap.size + 1 + 1, 1, none⟩ = _ := (gb_cell gt (by first | omega | (simp; done) | (simp; omega)) (by omega)).trans ((by go_simp : _ = some (Value.int .i64 0))); have z2 : Wz.cell? ⟨w.heap.size + 1 + 1, 2, none⟩ = _ := (gb_cell gt (by first | omega | (simp; done) | (simp; omega)) (by omega)).trans ((by go_simp : _ = some (Value.int .i64 0))); have y0 : Wz.frozen? ⟨w.heap.size + 1 + 1, 0, none⟩ = _ := (gb_frozen gt (by first | omega | (simp; done) | (simp; omega)) (by omega)).trans ((by go_simp : _ = false)); have y1 : Wz.frozen? ⟨w.heap.size + 1 + 1, 1, none⟩ = _ := (gb_frozen gt (by first | omega | (simp; done) | (simp; omega)) (by omega)).trans ((by go_simp : _ = false)); have y2 : Wz.frozen? ⟨w.heap.size + 1 + 1, 2, none⟩ = _ := (gb_frozen gt (by first | omega | (simp; done) | (simp; omega)) (by omega)).trans ((by go_simp : _ = false)); have DZ : Below w.heap.size w Wz := Below.grown (by exact (by repeat (first | assumption | exact Below.refl _ _ | (refine Below.trans ?_ (ST.out.D.mono (by first | omega | (simp; done) | (simp; omega)))) | (refine Below.setCell ?_ (by first | omega | (simp; done) | (simp; omega)) _) | apply below_drewN | apply Below.drew | (refine Below.alloc ?_ (by first | omega | (simp; done) | (simp; omega)) _)))) gt (by first | omega | (simp; done) | (simp; omega)) (fun k hk => by injection hk with hk; omega)))
      exact bodyPost_ret (v := .tuple #[.agg #[.bool false, .int .i64 0, .int .i64 0], .int .i64 C]) (by simp [results, Try.results14, go_sem, z0, z1, z2, y0, y1, y2]) rfl ⟨rfl, (by repeat (first | assumption | exact Below.refl _ _ | (refine Below.trans ?_ (DZ.mono (by first | omega | (simp; done) | (simp; omega)))) | (refine Below.setCell ?_ (by first | omega | (simp; done) | (simp; omega)) _) | apply below_drewN | apply Below.drew | (refine Below.alloc ?_ (by first | omega | (simp; done) | (simp; omega)) _)))⟩
  · have e0 : ssG a0_0 a0_1 a1_0 a1_1 a1_2 a2 a3 a4 = zGate := if_neg h
    have e1 : ssC a0_0 a0_1 a1_0 a1_1 a1_2 a2 a3 a4 = sc3 (ssV a0_0 a0_1 a1_1 a1_2) (ssR a2 a3 a4) := if_neg h
    rw [e0, e1]
    clear e0 e1
    have e2 := sc3_ne h
    obtain ⟨v1, hv1⟩ : ∃ v, v = decide (slOk a0_0 a0_1) := ⟨_, rfl⟩
    obtain ⟨v2, hv2⟩ : ∃ v, v = decide (gtOk a1_1 a1_2) := ⟨_, rfl⟩
    obtain ⟨o1, ho1⟩ : ∃ v, v = decide (0 ≤ a2 ∧ a2 ≤ 2) := ⟨_, rfl⟩
    obtain ⟨o2, ho2⟩ : ∃ v, v = decide (slv a3 ∧ slv a4) := ⟨_, rfl⟩
    have HV1 := Lib.hid hv1
    have HV2 := Lib.hid hv2
    have HO := Lib.hid (show o1 = true ↔ allIn 0 2 1 [a2] by rw [ho1, decide_eq_true_iff]; exact allIn_one.symm)
    have HL := Lib.hid (show o2 = true ↔ allIn (-2000) 2000 2 [a3, a4] by rw [ho2, decide_eq_true_iff]; exact allIn_two.symm)
    have hk : sc3 (ssV a0_0 a0_1 a1_1 a1_2) (ssR a2 a3 a4) = if (v1 && v2) = true then (if (o1 && o2) = true then 0 else 2) else 1 := by
      unfold sc3
      have a1 : (v1 && v2) = true ↔ ssV a0_0 a0_1 a1_1 a1_2 := by rw [hv1, hv2, Bool.and_eq_true, decide_eq_true_iff, decide_eq_true_iff]; rfl
      have a2 : (o1 && o2) = true ↔ ssR a2 a3 a4 := by rw [ho1, ho2, Bool.and_eq_true, decide_eq_true_iff, decide_eq_true_iff]; rfl
      simp only [a1, a2]
    generalize sc3 (ssV a0_0 a0_1 a1_1 a1_2) (ssR a2 a3 a4) = C at *
    have e4 : (C != 0) = true := by simpa using e2
    have HK := Lib.hid hk
    clear h hv1 hv2 ho1 ho2 e2
    have hne : ¬ (v1 = true ∧ v2 = true ∧ o1 = true ∧ o2 = true) := by
      rintro ⟨rfl, rfl, rfl, rfl⟩
      simp at hk
      rw [hk] at e4
      simp at e4
    clear hk
    cases v1 <;> cases v2 <;> cases o1 <;> cases o2
    all_goals first | (exact (hne ⟨rfl, rfl, rfl, rfl⟩).elim) | (
      clear hne
      go_enter Try.func14, Try.ntmps14
      go_wp2_with fail
      have ST := Lib.hid (show StB w (((w.alloc (.cells #[.int .i64 a0_0, .int .i64 a0_1] 26)).alloc (.cells #[.bool a1_0, .int .i64 a1_1, .int .i64 a1_2] 31)).alloc (.cells #[.bool false, .int .i64 0, .int .i64 0] 31)) a0_0 a0_1 a1_0 a1_1 a1_2 from ⟨(by repeat (first | assumption | exact Below.refl _ _ | (refine Below.setCell ?_ (by first | omega | (simp; done) | (simp; omega)) _) | apply below_drewN | apply Below.drew | (refine Below.alloc ?_ (by first | omega | (simp; done) | (simp; omega)) _))), (by first | omega | (simp; done) | (simp; omega)), (by first | omega | (simp; done) | (simp; omega)), (by first | omega | (simp; done) | (simp; omega)), (by first | (simp; done) | go_simp), (by first | (simp; done) | go_simp), (by first | (simp; done) | go_simp), (by first | (simp; done) | go_simp), (by first | (simp; done) | go_simp), (by first | (simp; done) | go_simp), (by first | (simp; done) | go_simp), (by first | (simp; done) | go_simp), (by first | (simp; done) | go_simp), (by first | (simp; done) | go_simp), (by first | (simp; done) | go_simp)⟩)
      generalize (((w.alloc (.cells #[.int .i64 a0_0, .int .i64 a0_1] 26)).alloc (.cells #[.bool a1_0, .int .i64 a1_1, .int .i64 a1_2] 31)).alloc (.cells #[.bool false, .int .i64 0, .int .i64 0] 31)) = W0 at ST ⊢
      have l0 := ST.out.l0
      have l1 := ST.out.l1
      have l2 := ST.out.l2
      have c0_0 := ST.out.c0_0
      have c0_1 := ST.out.c0_1
      have c1_0 := ST.out.c1_0
      have c1_1 := ST.out.c1_1
      have c1_2 := ST.out.c1_2
      have c2_0 := ST.out.c2_0
      have f2_0 := ST.out.f2_0
      have c2_1 := ST.out.c2_1
      have f2_1 := ST.out.f2_1
      have c2_2 := ST.out.c2_2
      have f2_2 := ST.out.f2_2
      go_wp2_with (first | (go_at_call 41; refine (sluI_any _ _ _ _ HV1.out).mono ?_; rintro en Wn ⟨rfl, bn⟩; replace ST := Lib.hid (ST.out.step (by first | exact Below.refl _ _ | exact (by repeat (first | assumption | exact Below.refl _ _ | (refine Below.setCell ?_ (by first | omega | (simp; done) | (simp; omega)) _) | apply below_drewN | apply Below.drew | (refine Below.alloc ?_ (by first | omega | (simp; done) | (simp; omega)) _)))) bn); replace l0 := ST.out.l0; replace l1 := ST.out.l1; replace l2 := ST.out.l2; replace c0_0 := ST.out.c0_0; replace c0_1 := ST.out.c0_1; replace c1_0 := ST.out.c1_0; replace c1_1 := ST.out.c1_1; replace c1_2 := ST.out.c1_2; replace c2_0 := ST.out.c2_0; replace f2_0 := ST.out.f2_0; replace c2_1 := ST.out.c2_1; replace f2_1 := ST.out.f2_1; replace c2_2 := ST.out.c2_2; replace f2_2 := ST.out.f2_2; clear bn) | (go_at_call 49; refine (gtI_any _ _ _ _ _ HV2.out).mono ?_; rintro en Wn ⟨rfl, bn⟩; replace ST := Lib.hid (ST.out.step (by first | exact Below.refl _ _ | exact (by repeat (first | assumption | exact Below.refl _ _ | (refine Below.setCell ?_ (by first | omega | (simp; done) | (simp; omega)) _) | apply below_drewN | apply Below.drew | (refine Below.alloc ?_ (by first | omega | (simp; done) | (simp; omega)) _)))) bn); replace l0 := ST.out.l0; replace l1 := ST.out.l1; replace l2 := ST.out.l2; replace c0_0 := ST.out.c0_0; replace c0_1 := ST.out.c0_1; replace c1_0 := ST.out.c1_0; replace c1_1 := ST.out.c1_1; replace c1_2 := ST.out.c1_2; replace c2_0 := ST.out.c2_0; replace f2_0 := ST.out.f2_0; replace c2_1 := ST.out.c2_1; replace f2_1 := ST.out.f2_1; replace c2_2 := ST.out.c2_2; replace f2_2 := ST.out.f2_2; clear bn) | (go_at_call 50; first | (refine (areOrders_any _ _ _ [a2] _ (by omega) ((rd_one _ _ _).mono (by first | omega | (simp; done) | (simp; omega))) true (by have := HO.out; simpa using this)).mono ?_; rintro en Wn ⟨rfl, bn⟩; replace ST := Lib.hid (ST.out.step (by first | exact Below.refl _ _ | exact (by repeat (first | assumption | exact Below.refl _ _ | (refine Below.setCell ?_ (by first | omega | (simp; done) | (simp; omega)) _) | apply below_drewN | apply Below.drew | (refine Below.alloc ?_ (by first | omega | (simp; done) | (simp; omega)) _)))) bn); replace l0 := ST.out.l0; replace l1 := ST.out.l1; replace l2 := ST.out.l2; replace c0_0 := ST.out.c0_0; replace c0_1 := ST.out.c0_1; replace c1_0 := ST.out.c1_0; replace c1_1 := ST.out.c1_1; replace c1_2 := ST.out.c1_2; replace c2_0 := ST.out.c2_0; replace f2_0 := ST.out.f2_0; replace c2_1 := ST.out.c2_1; replace f2_1 := ST.out.f2_1; replace c2_2 := ST.out.c2_2; replace f2_2 := ST.out.f2_2; clear bn) | (refine (areOrders_any _ _ _ [a2] _ (by omega) ((rd_one _ _ _).mono (by first | omega | (simp; done) | (simp; omega))) false (by have := HO.out; simpa using this)).mono ?_; rintro en Wn ⟨rfl, bn⟩; replace ST := Lib.hid (ST.out.step (by first | exact Below.refl _ _ | exact (by repeat (first | assumption | exact Below.refl _ _ | (refine Below.setCell ?_ (by first | omega | (simp; done) | (simp; omega)) _) | apply below_drewN | apply Below.drew | (refine Below.alloc ?_ (by first | omega | (simp; done) | (simp; omega)) _)))) bn); replace l0 := ST.out.l0; replace l1 := ST.out.l1; replace l2 := ST.out.l2; replace c0_0 := ST.out.c0_0; replace c0_1 := ST.out.c0_1; replace c1_0 := ST.out.c1_0; replace c1_1 := ST.out.c1_1; replace c1_2 := ST.out.c1_2; replace c2_0 := ST.out.c2_0; replace f2_0 := ST.out.f2_0; replace c2_1 := ST.out.c2_1; replace f2_1 := ST.out.f2_1; replace c2_2 := ST.out.c2_2; replace f2_2 := ST.out.f2_2; clear bn)) | (go_at_call 42; first | (refine (areLevels_any _ _ _ [a3, a4] _ (by omega) ((rd_two _ _ _ _).mono (by first | omega | (simp; done) | (simp; omega))) true (by have := HL.out; simpa using this)).mono ?_; rintro en Wn ⟨rfl, bn⟩; replace ST := Lib.hid (ST.out.step (by first | exact Below.refl _ _ | exact (by repeat (first | assumption | exact Below.refl _ _ | (refine Below.setCell ?_ (by first | omega | (simp; done) | (simp; omega)) _) | apply below_drewN | apply Below.drew | (refine Below.alloc ?_ (by first | omega | (simp; done) | (simp; omega)) _)))) bn); replace l0 := ST.out.l0; replace l1 := ST.out.l1; replace l2 := ST.out.l2; replace c0_0 := ST.out.c0_0; replace c0_1 := ST.out.c0_1; replace c1_0 := ST.out.c1_0; replace c1_1 := ST.out.c1_1; replace c1_2 := ST.out.c1_2; replace c2_0 := ST.out.c2_0; replace f2_0 := ST.out.f2_0; replace c2_1 := ST.out.c2_1; replace f2_1 := ST.out.f2_1; replace c2_2 := ST.out.c2_2; replace f2_2 := ST.out.f2_2; clear bn) | (refine (areLevels_any _ _ _ [a3, a4] _ (by omega) ((rd_two _ _ _ _).mono (by first | omega | (simp; done) | (simp; omega))) false (by have := HL.out; simpa using this)).mono ?_; rintro en Wn ⟨rfl, bn⟩; replace ST := Lib.hid (ST.out.step (by first | exact Below.refl _ _ | exact (by repeat (first | assumption | exact Below.refl _ _ | (refine Below.setCell ?_ (by first | omega | (simp; done) | (simp; omega)) _) | apply below_drewN | apply Below.drew | (refine Below.alloc ?_ (by first | omega | (simp; done) | (simp; omega)) _)))) bn); replace l0 := ST.out.l0; replace l1 := ST.out.l1; replace l2 := ST.out.l2; replace c0_0 := ST.out.c0_0; replace c0_1 := ST.out.c0_1; replace c1_0 := ST.out.c1_0; replace c1_1 := ST.out.c1_1; replace c1_2 := ST.out.c1_2; replace c2_0 := ST.out.c2_0; replace f2_0 := ST.out.f2_0; replace c2_1 := ST.out.c2_1; replace f2_1 := ST.out.f2_1; replace c2_2 := ST.out.c2_2; replace f2_2 := ST.out.f2_2; clear bn)) | (go_at_call 40; refine (codeFor_k _ _ _ C (by have := HK.out; simpa using this)).mono ?_; rintro en wn ⟨rfl, rfl⟩))
      exact bodyPost_ret (v := .tuple #[.agg #[.bool false, .int .i64 0, .int .i64 0], .int .i64 C]) (by simp [results, Try.results14, go_sem, c2_0, c2_1, c2_2]) rfl ⟨rfl, (by repeat (first | assumption | exact Below.refl _ _ | (refine Below.trans ?_ (ST.out.D.mono (by first | omega | (simp; done) | (simp; omega)))) | (refine Below.setCell ?_ (by first | omega | (simp; done) | (simp; omega)) _) | apply below_drewN | apply Below.drew | (refine Below.alloc ?_ (by first | omega | (simp; done) | (simp; omega)) _)))⟩)


end Go.Proofs.Ytcimigaimlojlaa
