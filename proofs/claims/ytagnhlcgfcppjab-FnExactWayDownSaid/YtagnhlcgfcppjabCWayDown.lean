import Derived.Test.YtagnhlcgfcppjabWay
namespace Go.Proofs.Ytagnhlcgfcppjab
open Go.RowKit

def r0_WayDown (a0_0 : Int) (a0_1 : Int) (xa0_2 : List Int) (a1 : Int) : List Int := if LandOk a0_0 a0_1 xa0_2 ∧ inC xa0_2.length a1 then a1 :: wayT a0_0 a0_1 xa0_2 4001 a1 else []
def r1_WayDown (a0_0 : Int) (a0_1 : Int) (xa0_2 : List Int) (a1 : Int) : Int := lcode a0_0 a0_1 xa0_2 (inC xa0_2.length a1)
theorem len_r0_WayDown (a0_0 : Int) (a0_1 : Int) (xa0_2 : List Int) (a1 : Int) : (r0_WayDown a0_0 a0_1 xa0_2 a1).length ≤ 1048576 := by
  unfold r0_WayDown
  split
  · have := wayT_len a0_0 a0_1 xa0_2 4001 a1
    simp only [List.length_cons]
    omega
  · simp

theorem hAt_bd {r c x : Int} {xs : List Int} (h : LandOk r c xs) (h0 : 0 ≤ x) (h1 : x < (xs.length : Int)) : -2000 ≤ hAt xs x ∧ hAt xs x ≤ 2000 := h.2.2.2 x.toNat (by omega)
/-- the way so far, and what is left of it -/
def WaySt (r c : Int) (xs : List Int) (x0 x : Int) (out : List Int) : Prop := ∃ f : Nat, out ++ wayT r c xs f x = x0 :: wayT r c xs 4001 x0 ∧ hAt xs x + 2000 < (f : Int)
theorem WaySt.len {r c : Int} {xs : List Int} {x0 x : Int} {out : List Int} (h : WaySt r c xs x0 x out) : out.length ≤ 4002 := by
  obtain ⟨f, h1, _⟩ := h
  have h2 := congrArg List.length h1
  have h3 := wayT_len r c xs 4001 x0
  simp only [List.length_append, List.length_cons] at h2
  omega
theorem WaySt.stop {r c : Int} {xs : List Int} {x0 x : Int} {out : List Int} (h : WaySt r c xs x0 x out) (hh : -2000 ≤ hAt xs x) (e : bestOf xs x (near r c x) = x) : out = x0 :: wayT r c xs 4001 x0 := by
  obtain ⟨f, h1, h2⟩ := h
  cases f with
  | zero => omega
  | succ f => rw [wayT, if_pos e, List.append_nil] at h1; exact h1
theorem WaySt.step {r c : Int} {xs : List Int} {x0 x : Int} {out : List Int} (h : WaySt r c xs x0 x out) (hh : -2000 ≤ hAt xs x) (e : ¬ bestOf xs x (near r c x) = x) : WaySt r c xs x0 (bestOf xs x (near r c x)) (out ++ [bestOf xs x (near r c x)]) := by
  obtain ⟨f, h1, h2⟩ := h
  cases f with
  | zero => omega
  | succ f =>
    rw [wayT, if_neg e] at h1
    refine ⟨f, by rw [← h1, List.append_assoc]; rfl, ?_⟩
    rcases best_lt xs x (near r c x) with h3 | h3
    · exact absurd h3 e
    · omega
theorem WaySt.start {r c : Int} {xs : List Int} {x0 : Int} (hh : hAt xs x0 ≤ 2000) : WaySt r c xs x0 x0 [x0] := ⟨4001, rfl, by omega⟩

set_option maxRecDepth 100000 in
set_option maxHeartbeats 3200000 in
theorem implC_WayDown (a0_0 : Int) (a0_1 : Int) (a0_2 : Option Addr) (la0_2 ca0_2 : Nat) (xa0_2 : List Int) (a1 : Int) (w : World) (ha0_0 : (Lit.int .i64 a0_0).wf = true) (ha0_1 : (Lit.int .i64 a0_1).wf = true) (ha0_2 : la0_2 ≤ 1048576) (ra0_2 : Rd w w.heap.size a0_2 la0_2 xa0_2) (fa0_2 : Wf xa0_2) (ha1 : (Lit.int .i64 a1).wf = true) :
    Calls Try.prog 40 #[.agg #[.int .i64 a0_0, .int .i64 a0_1, .slice a0_2 la0_2 ca0_2], .int .i64 a1] w fun e w' => ∃ B0 dB0, e = .returned (.tuple #[.slice B0 (r0_WayDown a0_0 a0_1 xa0_2 a1).length dB0, .int .i64 (r1_WayDown a0_0 a0_1 xa0_2 a1)]) ∧ Below w.heap.size w w' ∧ Wr w' w.heap.size B0 (r0_WayDown a0_0 a0_1 xa0_2 a1).length (r0_WayDown a0_0 a0_1 xa0_2 a1) := by
  have hln := ra0_2.1
  have RA := Lib.hid ra0_2
  clear ra0_2
  obtain ⟨L, hL⟩ : ∃ L, decide (inC la0_2 a1) = L := ⟨_, rfl⟩
  have EL := Lib.hid hL
  have E3 := Lib.hid (show LandOk a0_0 a0_1 xa0_2 → L = decide (inC xa0_2.length a1) from fun _ => by rw [hln]; exact hL.symm)
  clear hL
  by_cases h : LandOk a0_0 a0_1 xa0_2 ∧ inC xa0_2.length a1
  · have hlen := h.1.len
    rw [show r0_WayDown a0_0 a0_1 xa0_2 a1 = a1 :: wayT a0_0 a0_1 xa0_2 4001 a1 from if_pos h, show r1_WayDown a0_0 a0_1 xa0_2 a1 = 0 from lcode_ok h.1 h.2]
    have EC := Lib.hid (lcode_ok h.1 h.2)
    obtain ⟨i1, i2⟩ := h.2
    have ST := Lib.hid (WaySt.start (r := a0_0) (c := a0_1) (hAt_bd h.1 i1 (by omega)).2)
    have H := Lib.hid h.1
    clear h
    obtain ⟨tot, htot⟩ : ∃ t, t = a1 :: wayT a0_0 a0_1 xa0_2 4001 a1 := ⟨_, rfl⟩
    rw [← htot]
    have HT := Lib.hid htot
    clear htot
    go_enter Try.func40, Try.ntmps40
    go_wp2_with fail
    go_region_held3 (fun w' => w'.cell? ⟨w.heap.size, 0, none⟩ = some (.int .i64 a0_0) ∧ w'.cell? ⟨w.heap.size, 1, none⟩ = some (.int .i64 a0_1) ∧ w'.cell? ⟨w.heap.size, 2, none⟩ = some (.slice a0_2 la0_2 ca0_2)) (go_keep)
      (first | (go_at_call 72; refine (hasCell_t _ _ _ _ _ _ _ ha0_2 L EL.out).mono ?_; rintro e1 W1 ⟨rfl, b1⟩; obtain ⟨k1, f1⟩ := bcell b1; have s1 : w.heap.size < W1.heap.size := (by have := b1.size; simp at this; omega); have z0 : W1.cell? ⟨w.heap.size, 0, none⟩ = some (.int .i64 a0_0) := (by rw [k1 _ _ (by first | omega | (simp; done) | (simp; omega))]; first | (simp; done) | go_simp); have zf0 : W1.frozen? ⟨w.heap.size, 0, none⟩ = false := (by rw [f1 _ _ (by first | omega | (simp; done) | (simp; omega))]; first | (simp; done) | go_simp); have z1 : W1.cell? ⟨w.heap.size, 1, none⟩ = some (.int .i64 a0_1) := (by rw [k1 _ _ (by first | omega | (simp; done) | (simp; omega))]; first | (simp; done) | go_simp); have zf1 : W1.frozen? ⟨w.heap.size, 1, none⟩ = false := (by rw [f1 _ _ (by first | omega | (simp; done) | (simp; omega))]; first | (simp; done) | go_simp); have z2 : W1.cell? ⟨w.heap.size, 2, none⟩ = some (.slice a0_2 la0_2 ca0_2) := (by rw [k1 _ _ (by first | omega | (simp; done) | (simp; omega))]; first | (simp; done) | go_simp); have zf2 : W1.frozen? ⟨w.heap.size, 2, none⟩ = false := (by rw [f1 _ _ (by first | omega | (simp; done) | (simp; omega))]; first | (simp; done) | go_simp); clear k1 f1) | (go_at_call 54; refine (landCode_t _ _ _ _ _ xa0_2 L (inC xa0_2.length a1) _ ha0_2 ((RA.out.below (by repeat (first | assumption | exact Below.refl _ _ | (refine Below.trans ?_ (b1.mono (by first | omega | (simp; done) | (simp; omega)))) | (refine Below.setCell ?_ (by first | omega | (simp; done) | (simp; omega)) _) | apply below_drewN | apply Below.drew | (refine Below.alloc ?_ (by first | omega | (simp; done) | (simp; omega)) _)))).mono (by first | omega | (simp; done) | (simp; omega))) E3.out).mono ?_; rintro e2 W2 ⟨rfl, b2⟩; rw [EC.out]; have s2 : W1.heap.size ≤ W2.heap.size := b2.size; have u0 : W2.cell? ⟨w.heap.size, 0, none⟩ = _ := (b2.cell (p := ⟨w.heap.size, 0, none⟩) (show w.heap.size < _ from (by first | omega | (simp; done) | (simp; omega)))).trans z0; have uf0 : W2.frozen? ⟨w.heap.size, 0, none⟩ = _ := (b2.frozen (p := ⟨w.heap.size, 0, none⟩) (show w.heap.size < _ from (by first | omega | (simp; done) | (simp; omega)))).trans zf0; have u1 : W2.cell? ⟨w.heap.size, 1, none⟩ = _ := (b2.cell (p := ⟨w.heap.size, 1, none⟩) (show w.heap.size < _ from (by first | omega | (simp; done) | (simp; omega)))).trans z1; have uf1 : W2.frozen? ⟨w.heap.size, 1, none⟩ = _ := (b2.frozen (p := ⟨w.heap.size, 1, none⟩) (show w.heap.size < _ from (by first | omega | (simp; done) | (simp; omega)))).trans zf1; have u2 : W2.cell? ⟨w.heap.size, 2, none⟩ = _ := (b2.cell (p := ⟨w.heap.size, 2, none⟩) (show w.heap.size < _ from (by first | omega | (simp; done) | (simp; omega)))).trans z2; have uf2 : W2.frozen? ⟨w.heap.size, 2, none⟩ = _ := (b2.frozen (p := ⟨w.heap.size, 2, none⟩) (show w.heap.size < _ from (by first | omega | (simp; done) | (simp; omega)))).trans zf2; have d2 : Below w.heap.size w W2 := (by repeat (first | assumption | exact Below.refl _ _ | (refine Below.trans ?_ (b2.mono (by first | omega | (simp; done) | (simp; omega)))) | (refine Below.trans ?_ (b1.mono (by first | omega | (simp; done) | (simp; omega)))) | (refine Below.setCell ?_ (by first | omega | (simp; done) | (simp; omega)) _) | apply below_drewN | apply Below.drew | (refine Below.alloc ?_ (by first | omega | (simp; done) | (simp; omega)) _)))))
    go_wp2
    go_loopw [1, 7, 8] (fun t v _ wr => ∃ (x : Int) (out : List Int), t = .int .i64 x ∧ inC la0_2 x ∧ WaySt a0_0 a0_1 xa0_2 a1 x out ∧ Below w.heap.size w wr ∧ w.heap.size + 1 ≤ wr.heap.size ∧ LandAt wr w.heap.size a0_0 a0_1 a0_2 la0_2 ca0_2 ∧ wr.ownsRow (w.heap.size + 1) 2 1 v out.length (out.map (Value.int .i64))) (fun t _ _ _ => (hAt xa0_2 (intOf t) + 2000).toNat)
    case atStart => exact ⟨a1, [a1], rfl, ⟨i1, by omega⟩, ST.out, (by repeat (first | assumption | exact Below.refl _ _ | (refine Below.trans ?_ (d2.mono (by first | omega | (simp; done) | (simp; omega)))) | (refine Below.setCell ?_ (by first | omega | (simp; done) | (simp; omega)) _) | apply below_drewN | apply Below.drew | (refine Below.alloc ?_ (by first | omega | (simp; done) | (simp; omega)) _))), by simp; omega, LandAt.below (w := W2) (B := W2.heap.size) ⟨u0, u1, u2⟩ ((Below.refl _ _).alloc (Nat.le_refl _) _) (by omega), owns_one (by omega) a1⟩
    case round =>
      obtain ⟨x, out, rfl, ⟨j1, j2⟩, hst, hb, hz, hat, hown⟩ := hrel
      have hat' := hat
      obtain ⟨y0, y1, y2⟩ := hat'
      have hol := hst.len
      have hbd := hAt_bd H.out j1 (by omega)
      have ST2 := Lib.hid (hst.step hbd.1)
      have STO := Lib.hid (hst.stop hbd.1)
      have hbl := Lib.hid (best_lt xa0_2 x (near a0_0 a0_1 x))
      obtain ⟨m1, m2⟩ := best_mem xa0_2 x la0_2 (near a0_0 a0_1 x) ⟨j1, by omega⟩ (near_mem H.out.1.1 H.out.2.1.1 j1 (by omega) (by rw [← hln]; exact H.out.2.2.1))
      obtain ⟨bb, hbb⟩ : ∃ y, y = bestOf xa0_2 x (near a0_0 a0_1 x) := ⟨_, rfl⟩
      rw [← hbb] at m1 m2 ST2 STO hbl
      have HB := Lib.hid hbb.symm
      clear hbb hst
      by_cases he : bb = x
      · have et : (bb == x) = true := by simp [he]
        have EO := Lib.hid ((STO.out he).trans HT.out.symm)
        clear he
        go_wp2_with (go_at_call 73; refine (lowestNext_t _ _ _ _ _ xa0_2 _ _ ha0_2 ((RA.out.below (by repeat (first | assumption | exact Below.refl _ _ | (refine Below.trans ?_ (hb.mono (by first | omega | (simp; done) | (simp; omega)))) | (refine Below.setCell ?_ (by first | omega | (simp; done) | (simp; omega)) _) | apply below_drewN | apply Below.drew | (refine Below.alloc ?_ (by first | omega | (simp; done) | (simp; omega)) _)))).mono (by first | omega | (simp; done) | (simp; omega))) H.out j1 (by omega)).mono ?_; rintro e3 W3 ⟨rfl, b3⟩; rw [HB.out]; have h3 := owns_below hown b3)
        obtain ⟨B, d, rfl, hw⟩ := own_wr h3
        have hw2 : Wr W3 w.heap.size B tot.length tot := by rw [← EO.out]; exact hw.lower (by omega)
        go_ret2
        exact ⟨B, d, by rw [← EO.out]; rfl, (by repeat (first | assumption | exact Below.refl _ _ | (refine Below.trans ?_ (b3.mono (by first | omega | (simp; done) | (simp; omega)))) | (refine Below.trans ?_ (hb.mono (by first | omega | (simp; done) | (simp; omega)))) | (refine Below.setCell ?_ (by first | omega | (simp; done) | (simp; omega)) _) | apply below_drewN | apply Below.drew | (refine Below.alloc ?_ (by first | omega | (simp; done) | (simp; omega)) _))), hw2⟩
      · have et : (bb == x) = false := by simp [he]
        have E2 := Lib.hid (ST2.out he)
        have E4 := Lib.hid (show hAt xa0_2 bb < hAt xa0_2 x from by rcases hbl.out with h | h; exact absurd h he; exact h)
        clear he
        go_wp2_with (first | (go_at_call 73; refine (lowestNext_t _ _ _ _ _ xa0_2 _ _ ha0_2 ((RA.out.below (by repeat (first | assumption | exact Below.refl _ _ | (refine Below.trans ?_ (hb.mono (by first | omega | (simp; done) | (simp; omega)))) | (refine Below.setCell ?_ (by first | omega | (simp; done) | (simp; omega)) _) | apply below_drewN | apply Below.drew | (refine Below.alloc ?_ (by first | omega | (simp; done) | (simp; omega)) _)))).mono (by first | omega | (simp; done) | (simp; omega))) H.out j1 (by omega)).mono ?_; rintro e3 W3 ⟨rfl, b3⟩; rw [HB.out]; have h3 := owns_below hown b3; have s3 : wr.heap.size ≤ W3.heap.size := b3.size; have hat3 := hat.below b3 (by omega)) | (at_builtin; refine wpl_app1 rfl _ _ rfl _ _ _ _ _ _ rfl (by exact h3) rfl (by omega) (by omega) ?_; intro v1 w1 hown1 hb1 hz1))
        go_roundw
        case rel => exact ⟨bb, out ++ [bb], rfl, ⟨m1, by omega⟩, E2.out, (by repeat (first | assumption | exact Below.refl _ _ | (refine Below.trans ?_ (hb1.mono (by first | omega | (simp; done) | (simp; omega)))) | (refine Below.trans ?_ (b3.mono (by first | omega | (simp; done) | (simp; omega)))) | (refine Below.trans ?_ (hb.mono (by first | omega | (simp; done) | (simp; omega)))) | (refine Below.setCell ?_ (by first | omega | (simp; done) | (simp; omega)) _) | apply below_drewN | apply Below.drew | (refine Below.alloc ?_ (by first | omega | (simp; done) | (simp; omega)) _))), by omega, hat3.below hb1 (by omega), by simpa using hown1⟩
        case measure =>
          have h4 := E4.out
          have h5 := hbd.1
          have h6 := hAt_bd H.out m1 (by omega)
          simp [intOf]
          omega
  · rw [show r0_WayDown a0_0 a0_1 xa0_2 a1 = [] from if_neg h, show r1_WayDown a0_0 a0_1 xa0_2 a1 = lcode a0_0 a0_1 xa0_2 (inC xa0_2.length a1) from rfl]
    have e2 := lcode_ne h
    clear h hln
    generalize hC : lcode a0_0 a0_1 xa0_2 (inC xa0_2.length a1) = C at *
    have EC := Lib.hid hC
    clear hC
    go_enter Try.func40, Try.ntmps40
    go_wp2_with fail
    go_region_held3 (fun w' => w'.cell? ⟨w.heap.size, 0, none⟩ = some (.int .i64 a0_0) ∧ w'.cell? ⟨w.heap.size, 1, none⟩ = some (.int .i64 a0_1) ∧ w'.cell? ⟨w.heap.size, 2, none⟩ = some (.slice a0_2 la0_2 ca0_2)) (go_keep)
      (first | (go_at_call 72; refine (hasCell_t _ _ _ _ _ _ _ ha0_2 L EL.out).mono ?_; rintro e1 W1 ⟨rfl, b1⟩; obtain ⟨k1, f1⟩ := bcell b1; have s1 : w.heap.size < W1.heap.size := (by have := b1.size; simp at this; omega); have z0 : W1.cell? ⟨w.heap.size, 0, none⟩ = some (.int .i64 a0_0) := (by rw [k1 _ _ (by first | omega | (simp; done) | (simp; omega))]; first | (simp; done) | go_simp); have zf0 : W1.frozen? ⟨w.heap.size, 0, none⟩ = false := (by rw [f1 _ _ (by first | omega | (simp; done) | (simp; omega))]; first | (simp; done) | go_simp); have z1 : W1.cell? ⟨w.heap.size, 1, none⟩ = some (.int .i64 a0_1) := (by rw [k1 _ _ (by first | omega | (simp; done) | (simp; omega))]; first | (simp; done) | go_simp); have zf1 : W1.frozen? ⟨w.heap.size, 1, none⟩ = false := (by rw [f1 _ _ (by first | omega | (simp; done) | (simp; omega))]; first | (simp; done) | go_simp); have z2 : W1.cell? ⟨w.heap.size, 2, none⟩ = some (.slice a0_2 la0_2 ca0_2) := (by rw [k1 _ _ (by first | omega | (simp; done) | (simp; omega))]; first | (simp; done) | go_simp); have zf2 : W1.frozen? ⟨w.heap.size, 2, none⟩ = false := (by rw [f1 _ _ (by first | omega | (simp; done) | (simp; omega))]; first | (simp; done) | go_simp); clear k1 f1) | (go_at_call 54; refine (landCode_t _ _ _ _ _ xa0_2 L (inC xa0_2.length a1) _ ha0_2 ((RA.out.below (by repeat (first | assumption | exact Below.refl _ _ | (refine Below.trans ?_ (b1.mono (by first | omega | (simp; done) | (simp; omega)))) | (refine Below.setCell ?_ (by first | omega | (simp; done) | (simp; omega)) _) | apply below_drewN | apply Below.drew | (refine Below.alloc ?_ (by first | omega | (simp; done) | (simp; omega)) _)))).mono (by first | omega | (simp; done) | (simp; omega))) E3.out).mono ?_; rintro e2 W2 ⟨rfl, b2⟩; rw [EC.out]; have s2 : W1.heap.size ≤ W2.heap.size := b2.size; have u0 : W2.cell? ⟨w.heap.size, 0, none⟩ = _ := (b2.cell (p := ⟨w.heap.size, 0, none⟩) (show w.heap.size < _ from (by first | omega | (simp; done) | (simp; omega)))).trans z0; have uf0 : W2.frozen? ⟨w.heap.size, 0, none⟩ = _ := (b2.frozen (p := ⟨w.heap.size, 0, none⟩) (show w.heap.size < _ from (by first | omega | (simp; done) | (simp; omega)))).trans zf0; have u1 : W2.cell? ⟨w.heap.size, 1, none⟩ = _ := (b2.cell (p := ⟨w.heap.size, 1, none⟩) (show w.heap.size < _ from (by first | omega | (simp; done) | (simp; omega)))).trans z1; have uf1 : W2.frozen? ⟨w.heap.size, 1, none⟩ = _ := (b2.frozen (p := ⟨w.heap.size, 1, none⟩) (show w.heap.size < _ from (by first | omega | (simp; done) | (simp; omega)))).trans zf1; have u2 : W2.cell? ⟨w.heap.size, 2, none⟩ = _ := (b2.cell (p := ⟨w.heap.size, 2, none⟩) (show w.heap.size < _ from (by first | omega | (simp; done) | (simp; omega)))).trans z2; have uf2 : W2.frozen? ⟨w.heap.size, 2, none⟩ = _ := (b2.frozen (p := ⟨w.heap.size, 2, none⟩) (show w.heap.size < _ from (by first | omega | (simp; done) | (simp; omega)))).trans zf2; have d2 : Below w.heap.size w W2 := (by repeat (first | assumption | exact Below.refl _ _ | (refine Below.trans ?_ (b2.mono (by first | omega | (simp; done) | (simp; omega)))) | (refine Below.trans ?_ (b1.mono (by first | omega | (simp; done) | (simp; omega)))) | (refine Below.setCell ?_ (by first | omega | (simp; done) | (simp; omega)) _) | apply below_drewN | apply Below.drew | (refine Below.alloc ?_ (by first | omega | (simp; done) | (simp; omega)) _)))))
    go_wp2
    go_ret2
    exact ⟨none, 0, rfl, (by repeat (first | assumption | exact Below.refl _ _ | (refine Below.trans ?_ (d2.mono (by first | omega | (simp; done) | (simp; omega)))) | (refine Below.setCell ?_ (by first | omega | (simp; done) | (simp; omega)) _) | apply below_drewN | apply Below.drew | (refine Below.alloc ?_ (by first | omega | (simp; done) | (simp; omega)) _))), rfl, fun h => absurd h (by simp)⟩

set_option maxRecDepth 100000 in
set_option maxHeartbeats 6400000 in
theorem specC_WayDown (a0_0 : Int) (a0_1 : Int) (a0_2 : Option Addr) (la0_2 ca0_2 : Nat) (xa0_2 : List Int) (a1 : Int) (w : World) (ha0_0 : (Lit.int .i64 a0_0).wf = true) (ha0_1 : (Lit.int .i64 a0_1).wf = true) (ha0_2 : la0_2 ≤ 1048576) (ra0_2 : Rd w w.heap.size a0_2 la0_2 xa0_2) (fa0_2 : Wf xa0_2) (ha1 : (Lit.int .i64 a1).wf = true) :
    Calls Try.prog 39 #[.agg #[.int .i64 a0_0, .int .i64 a0_1, .slice a0_2 la0_2 ca0_2], .int .i64 a1] w fun e w' => ∃ B0 dB0, e = .returned (.tuple #[.slice B0 (r0_WayDown a0_0 a0_1 xa0_2 a1).length dB0, .int .i64 (r1_WayDown a0_0 a0_1 xa0_2 a1)]) ∧ Below w.heap.size w w' ∧ Wr w' w.heap.size B0 (r0_WayDown a0_0 a0_1 xa0_2 a1).length (r0_WayDown a0_0 a0_1 xa0_2 a1) := by
  have hln := ra0_2.1
  have RA := Lib.hid ra0_2
  clear ra0_2
  by_cases hv : LandOk a0_0 a0_1 xa0_2
  · by_cases hi : inC xa0_2.length a1
    · have hlen := hv.len
      rw [show r0_WayDown a0_0 a0_1 xa0_2 a1 = a1 :: wayT a0_0 a0_1 xa0_2 4001 a1 from if_pos ⟨hv, hi⟩, show r1_WayDown a0_0 a0_1 xa0_2 a1 = 0 from lcode_ok hv hi]
      have H := Lib.hid hv
      obtain ⟨i1, i2⟩ := hi
      have ST := Lib.hid (WaySt.start (r := a0_0) (c := a0_1) (hAt_bd hv i1 (by omega)).2)
      have HN := Lib.hid (show (la0_2 : Int) = a0_0 * a0_1 by rw [← hln]; exact hv.2.2.1)
      obtain ⟨b0, o0, e0, hb0, hc0⟩ := RA.out.2 (by omega)
      have HC := Lib.hid hc0
      subst e0
      clear hv hc0
      obtain ⟨tot, htot⟩ : ∃ t, t = a1 :: wayT a0_0 a0_1 xa0_2 4001 a1 := ⟨_, rfl⟩
      rw [← htot]
      have HT := Lib.hid htot
      clear htot
      go_enter Try.func39, Try.ntmps39
      go_wp2_with (first | (go_at_call 50; refine (l03Ok_t _ a0_0 a0_1 _ la0_2 ca0_2 xa0_2 _ ha0_2 ⟨by simp, by simp, by simp⟩ ((RA.out.below (by repeat (first | assumption | exact Below.refl _ _ | (refine Below.setCell ?_ (by first | omega | (simp; done) | (simp; omega)) _) | apply below_drewN | apply Below.drew | (refine Below.alloc ?_ (by first | omega | (simp; done) | (simp; omega)) _)))).mono (by first | omega | (simp; done) | (simp; omega))) H.out).mono ?_; rintro e w' ⟨rfl, m, rfl⟩) | (go_at_call 67; first | (refine (in_t _ _ _ _ (by omega)).mono ?_; rintro e w' ⟨rfl, rfl⟩) | (refine (in_f _ _ _ _ (by omega)).mono ?_; rintro e w' ⟨rfl, rfl⟩)))
      go_loopw [1, 6, 7, 8, 9] (fun t v _ _ _ wr => ∃ (x : Int) (out : List Int), t = .int .i64 x ∧ inC la0_2 x ∧ WaySt a0_0 a0_1 xa0_2 a1 x out ∧ Below w.heap.size w wr ∧ w.heap.size + 1 ≤ wr.heap.size ∧ LandAt wr w.heap.size a0_0 a0_1 (some ⟨b0, o0, none⟩) la0_2 ca0_2 ∧ wr.ownsRow (w.heap.size + 1) 2 1 v out.length (out.map (Value.int .i64))) (fun t _ _ _ _ _ => (hAt xa0_2 (intOf t) + 2000).toNat)
      case atStart => exact ⟨a1, [a1], rfl, ⟨i1, by omega⟩, ST.out, (by repeat (first | assumption | exact Below.refl _ _ | (refine Below.setCell ?_ (by first | omega | (simp; done) | (simp; omega)) _) | apply below_drewN | apply Below.drew | (refine Below.alloc ?_ (by first | omega | (simp; done) | (simp; omega)) _))), by simp, LandAt.below (B := w.heap.size + 1) (w := w.alloc (.cells #[.int .i64 a0_0, .int .i64 a0_1, .slice (some ⟨b0, o0, none⟩) la0_2 ca0_2] 27)) ⟨by simp, by simp, by simp⟩ (by repeat (first | assumption | exact Below.refl _ _ | (refine Below.setCell ?_ (by first | omega | (simp; done) | (simp; omega)) _) | apply below_drewN | apply Below.drew | (refine Below.alloc ?_ (by first | omega | (simp; done) | (simp; omega)) _))) (by omega), owns_one_k (by simp) (by omega) a1⟩
      case round =>
        obtain ⟨x, out, rfl, ⟨j1, j2⟩, hst, hb, hz, hat, hown⟩ := hrel
        have hat' := hat
        obtain ⟨y0, y1, y2⟩ := hat'
        have hol := hst.len
        have hbd := hAt_bd H.out j1 (by omega)
        have ST2 := Lib.hid (hst.step hbd.1)
        have STO := Lib.hid (hst.stop hbd.1)
        have hbl := Lib.hid (best_lt xa0_2 x (near a0_0 a0_1 x))
        have hnm := Lib.hid (near_mem H.out.1.1 H.out.2.1.1 j1 (show x < (la0_2 : Int) by omega) HN.out)
        have hnl := near_len a0_0 a0_1 x
        obtain ⟨ys, hys⟩ : ∃ ys, ys = near a0_0 a0_1 x := ⟨_, rfl⟩
        rw [← hys] at hnm hnl hbl ST2 STO
        have HY := Lib.hid hys.symm
        clear hys hst
        go_wp2_with (go_at_call 71; refine (l03Near_t _ a0_0 a0_1 _ la0_2 ca0_2 _ _ (by omega) hat H.out.1 H.out.2.1 j1 (by omega) HN.out).mono ?_; rintro e1 W1 ⟨B, d, rfl, b1, x1⟩; rw [HY.out] at x1 ⊢; have s1 : wr.heap.size ≤ W1.heap.size := b1.size; have hat1 := hat.below b1 (by omega); have d1 : Below w.heap.size w W1 := (by repeat (first | assumption | exact Below.refl _ _ | (refine Below.trans ?_ (b1.mono (by first | omega | (simp; done) | (simp; omega)))) | (refine Below.trans ?_ (hb.mono (by first | omega | (simp; done) | (simp; omega)))) | (refine Below.setCell ?_ (by first | omega | (simp; done) | (simp; omega)) _) | apply below_drewN | apply Below.drew | (refine Below.alloc ?_ (by first | omega | (simp; done) | (simp; omega)) _))); have h1 := owns_below hown b1; clear b1)
        have hat1' := hat1
        obtain ⟨y0, y1, y2⟩ := hat1'
        go_loopw [7, 9] (fun t i wr2 => ∃ q m : Nat, q ≤ ys.length ∧ i = .int .i64 (q : Int) ∧ wr2 = W1.drewN m ∧ t = .int .i64 (bestOf xa0_2 x (ys.take q))) (fun _ i _ => ys.length - (intOf i).toNat)
        case atStart => exact ⟨0, 0, by omega, rfl, rfl, rfl⟩
        case round =>
          obtain ⟨q, m, hq, rfl, rfl, rfl⟩ := hrel
          by_cases hlt : q < ys.length
          · obtain ⟨b, o, rfl, _, hbB, hc⟩ := x1.2 (by omega)
            have c1 := (hc q hlt).1
            clear hc
            obtain ⟨m1, m2⟩ := hnm.out (ys.getD q 0) (by rw [List.getD_eq_getElem?_getD, List.getElem?_eq_getElem hlt]; exact List.getElem_mem hlt)
            obtain ⟨m3, m4⟩ := best_mem xa0_2 x la0_2 (ys.take q) ⟨j1, by omega⟩ (fun y hy => hnm.out y (List.mem_of_mem_take hy))
            have E := Lib.hid (best_snoc xa0_2 x ys q hlt)
            obtain ⟨y, hy⟩ : ∃ y, y = ys.getD q 0 := ⟨_, rfl⟩
            obtain ⟨bb, hbb⟩ : ∃ y, y = bestOf xa0_2 x (ys.take q) := ⟨_, rfl⟩
            rw [← hy] at c1 m1 m2 E
            rw [← hbb] at m3 m4 E
            rw [← hbb]
            clear hy hbb
            have c2 := (d1.cell (p := ⟨b0, o0 + y.toNat, none⟩) hb0).trans (HC.out y.toNat (by omega))
            have c3 := (d1.cell (p := ⟨b0, o0 + bb.toNat, none⟩) hb0).trans (HC.out bb.toNat (by omega))
            have e2 : hAt xa0_2 y = xa0_2.getD y.toNat 0 := rfl
            have e3 : hAt xa0_2 bb = xa0_2.getD bb.toNat 0 := rfl
            rw [← e2] at c2
            rw [← e3] at c3
            clear e2 e3
            obtain ⟨hy, ehy⟩ : ∃ y', y' = hAt xa0_2 y := ⟨_, rfl⟩
            obtain ⟨hbh, ehb⟩ : ∃ y', y' = hAt xa0_2 bb := ⟨_, rfl⟩
            rw [← ehy] at c2 E
            rw [← ehb] at c3 E
            clear ehy ehb
            by_cases ht : hy < hbh
            · have E2 := Lib.hid (E.out.trans (if_pos ht))
              go_wp2
              go_quiet (fail)
              go_wp2
              go_roundw
              case rel => exact ⟨q + 1, _, by omega, by go_num, rfl, by rw [E2.out]⟩
              case measure => simp [intOf]; omega
            · have E2 := Lib.hid (E.out.trans (if_neg ht))
              go_wp2
              go_quiet (fail)
              go_wp2
              go_roundw
              case rel => exact ⟨q + 1, _, by omega, by go_num, rfl, by rw [E2.out]⟩
              case measure => simp [intOf]; omega
          · have E : bestOf xa0_2 x (ys.take q) = bestOf xa0_2 x ys := by rw [List.take_of_length_le (by omega)]
            rw [E]
            clear E
            obtain ⟨m1, m2⟩ := best_mem xa0_2 x la0_2 ys ⟨j1, by omega⟩ hnm.out
            obtain ⟨bb, hbb⟩ : ∃ y, y = bestOf xa0_2 x ys := ⟨_, rfl⟩
            rw [← hbb] at m1 m2 ST2 STO hbl
            rw [← hbb]
            clear hbb
            by_cases he : bb = x
            · have et : (bb == x) = true := by simp [he]
              have EO := Lib.hid ((STO.out he).trans HT.out.symm)
              clear he
              go_wp2
              obtain ⟨B2, d2, rfl, hw⟩ := own_wr h1
              have hw2 : Wr W1 w.heap.size B2 tot.length tot := by rw [← EO.out]; exact hw.lower (by omega)
              go_ret2
              exact ⟨B2, d2, by rw [← EO.out]; rfl, (by repeat (first | assumption | exact Below.refl _ _ | (refine Below.trans ?_ (d1.mono (by first | omega | (simp; done) | (simp; omega)))) | (refine Below.setCell ?_ (by first | omega | (simp; done) | (simp; omega)) _) | apply below_drewN | apply Below.drew | (refine Below.alloc ?_ (by first | omega | (simp; done) | (simp; omega)) _))), hw2⟩
            · have et : (bb == x) = false := by simp [he]
              have E2 := Lib.hid (ST2.out he)
              have E4 := Lib.hid (show hAt xa0_2 bb < hAt xa0_2 x from by rcases hbl.out with h | h; exact absurd h he; exact h)
              clear he
              have h2 : (W1.drewN m).ownsRow (w.heap.size + 1) 2 1 _ out.length (out.map (Value.int .i64)) := owns_below h1 (by repeat (first | assumption | exact Below.refl _ _ | (refine Below.setCell ?_ (by first | omega | (simp; done) | (simp; omega)) _) | apply below_drewN | apply Below.drew | (refine Below.alloc ?_ (by first | omega | (simp; done) | (simp; omega)) _)))
              go_wp2_with (at_builtin; refine wpl_app1 rfl _ _ rfl _ _ _ _ _ _ rfl (by exact h2) rfl (by omega) (show w.heap.size + 1 ≤ W1.heap.size by omega) ?_; intro v1 w1 hown1 hb1 hz1)
              go_roundw
              case rel => exact ⟨bb, out ++ [bb], rfl, ⟨m1, by omega⟩, E2.out, (by repeat (first | assumption | exact Below.refl _ _ | (refine Below.trans ?_ (hb1.mono (by first | omega | (simp; done) | (simp; omega)))) | (refine Below.trans ?_ (d1.mono (by first | omega | (simp; done) | (simp; omega)))) | (refine Below.setCell ?_ (by first | omega | (simp; done) | (simp; omega)) _) | apply below_drewN | apply Below.drew | (refine Below.alloc ?_ (by first | omega | (simp; done) | (simp; omega)) _))), Nat.le_trans (show w.heap.size + 1 ≤ W1.heap.size by omega) hz1, (hat1.below (B := w.heap.size + 1) (by repeat (first | assumption | exact Below.refl _ _ | (refine Below.trans ?_ (hb1.mono (by first | omega | (simp; done) | (simp; omega)))) | (refine Below.setCell ?_ (by first | omega | (simp; done) | (simp; omega)) _) | apply below_drewN | apply Below.drew | (refine Below.alloc ?_ (by first | omega | (simp; done) | (simp; omega)) _))) (by omega)), by simpa using hown1⟩
              case measure =>
                have h4 := E4.out
                have h5 := hbd.1
                have h6 := hAt_bd H.out m1 (by omega)
                simp [intOf]
                omega
    · rw [show r0_WayDown a0_0 a0_1 xa0_2 a1 = [] from if_neg (fun h => hi h.2), show r1_WayDown a0_0 a0_1 xa0_2 a1 = 2 from lcode_no hv hi]
      have H := Lib.hid hv
      have hi' : a1 < 0 ∨ (la0_2 : Int) - 1 < a1 := by unfold inC at hi; omega
      clear hv hi
      go_enter Try.func39, Try.ntmps39
      go_wp2_with (first | (go_at_call 50; refine (l03Ok_t _ a0_0 a0_1 _ la0_2 ca0_2 xa0_2 _ ha0_2 ⟨by simp, by simp, by simp⟩ ((RA.out.below (by repeat (first | assumption | exact Below.refl _ _ | (refine Below.setCell ?_ (by first | omega | (simp; done) | (simp; omega)) _) | apply below_drewN | apply Below.drew | (refine Below.alloc ?_ (by first | omega | (simp; done) | (simp; omega)) _)))).mono (by first | omega | (simp; done) | (simp; omega))) H.out).mono ?_; rintro e w' ⟨rfl, m, rfl⟩) | (go_at_call 67; first | (refine (in_t _ _ _ _ (by omega)).mono ?_; rintro e w' ⟨rfl, rfl⟩) | (refine (in_f _ _ _ _ (by omega)).mono ?_; rintro e w' ⟨rfl, rfl⟩)))
      go_ret2
      exact ⟨none, 0, rfl, (by repeat (first | assumption | exact Below.refl _ _ | (refine Below.setCell ?_ (by first | omega | (simp; done) | (simp; omega)) _) | apply below_drewN | apply Below.drew | (refine Below.alloc ?_ (by first | omega | (simp; done) | (simp; omega)) _))), rfl, fun h => absurd h (by simp)⟩
  · rw [show r0_WayDown a0_0 a0_1 xa0_2 a1 = [] from if_neg (fun h => hv h.1), show r1_WayDown a0_0 a0_1 xa0_2 a1 = 1 from lcode_bad hv]
    have H := Lib.hid hv
    clear hv
    go_enter Try.func39, Try.ntmps39
    go_wp2_with (first | (go_at_call 50; refine (l03Ok_f _ a0_0 a0_1 _ la0_2 ca0_2 xa0_2 _ ha0_2 ⟨by simp, by simp, by simp⟩ ((RA.out.below (by repeat (first | assumption | exact Below.refl _ _ | (refine Below.setCell ?_ (by first | omega | (simp; done) | (simp; omega)) _) | apply below_drewN | apply Below.drew | (refine Below.alloc ?_ (by first | omega | (simp; done) | (simp; omega)) _)))).mono (by first | omega | (simp; done) | (simp; omega))) H.out).mono ?_; rintro e w' ⟨rfl, m, rfl⟩))
    go_ret2
    exact ⟨none, 0, rfl, (by repeat (first | assumption | exact Below.refl _ _ | (refine Below.setCell ?_ (by first | omega | (simp; done) | (simp; omega)) _) | apply below_drewN | apply Below.drew | (refine Below.alloc ?_ (by first | omega | (simp; done) | (simp; omega)) _))), rfl, fun h => absurd h (by simp)⟩

end Go.Proofs.Ytagnhlcgfcppjab
