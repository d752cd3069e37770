/- The spells of a table below a level, of the program and of the model. -/
import Derived.Test.YthpnkkbinffmkaaDoorTideG
import Derived.Test.YthpnkkbinffmkaaDoorTideQ
namespace Go.Proofs.YthpnkkbinffmkaaDoor
open Go.RowKit

theorem own_posS {w : World} {base n size : Nat} {e : TypeId} {v : Value} {xs : List Value} (h : w.ownsRow base e size v n xs) (h0 : 0 < n) : ∃ g cap, v = .slice (some ⟨g, 0, none⟩) n cap ∧ base ≤ g ∧ g < w.heap.size ∧ n ≤ cap := own_form' h h0

/-- the spell of a flank, by its contracts: whether there is one, and which -/
theorem spellBelow_any (a b : RTide) (y : Int) (w : World) (hm : 0 ≤ a.f0 ∧ a.f0 < b.f0 ∧ b.f0 ≤ 100000) (hl : ¬ a.f1 = b.f1) (hla : -2000 ≤ a.f1 ∧ a.f1 ≤ 2000) (hlb : -2000 ≤ b.f1 ∧ b.f1 ≤ 2000) (hy : -2000 ≤ y ∧ y ≤ 2000) :
    (¬ (ptF a b y).f1 < (ptF a b y).f0 → Calls Tryd.prog 57 #[.agg #[.int .i64 a.f0, .int .i64 a.f1, .int .i64 b.f0, .int .i64 b.f1], .int .i64 y] w fun e w' => e = .returned (.tuple #[.agg #[.int .i64 (ptF a b y).f0, .int .i64 (ptF a b y).f1], .bool true]) ∧ Below w.heap.size w w') ∧
    ((ptF a b y).f1 < (ptF a b y).f0 → Calls Tryd.prog 57 #[.agg #[.int .i64 a.f0, .int .i64 a.f1, .int .i64 b.f0, .int .i64 b.f1], .int .i64 y] w fun e w' => e = .returned (.tuple #[.agg #[.int .i64 0, .int .i64 0], .bool false]) ∧ Below w.heap.size w w') := by
  obtain ⟨N, hN⟩ : ∃ N, N = b.f0 - a.f0 := ⟨_, rfl⟩
  have hN1 : 1 ≤ N ∧ N ≤ 100000 := by omega
  rcases Int.lt_or_gt_of_ne hl with c | c
  · rw [ptF_up c, ← hN]
    have hp := hn_bd hlb.1 hlb.2 hy.1 hy.2 hN1.1 hN1.2
    have hq := q_bd (show 1 ≤ b.f1 - a.f1 by omega) hp.1 hp.2
    have ea : awF b.f1 y N (b.f1 - a.f1) = max 0 ((b.f1 - y) * N / (b.f1 - a.f1) + 1) := rfl
    constructor
    · intro h
      exact spell_up1 a.f0 a.f1 b.f0 b.f1 y N _ _ _ _ w hN.symm hN1 ⟨hm.1, hm.2.2⟩ ⟨hla.1, hla.2, hlb.1, hlb.2⟩ hy c rfl ea.symm hp hq (by simp only at h; omega) rfl rfl
    · intro h
      exact spell_up0 a.f0 a.f1 b.f0 b.f1 y N _ _ w hN.symm hN1 ⟨hm.1, hm.2.2⟩ ⟨hla.1, hla.2, hlb.1, hlb.2⟩ hy c rfl ea.symm hp hq (by simp only at h; omega)
  · have c' : b.f1 < a.f1 := c
    rw [ptF_dn c', ← hN]
    have hp := hn_bd hla.1 hla.2 hy.1 hy.2 hN1.1 hN1.2
    have hq := q_bd (show 1 ≤ a.f1 - b.f1 by omega) hp.1 hp.2
    have ea : awF a.f1 y N (a.f1 - b.f1) = max 0 ((a.f1 - y) * N / (a.f1 - b.f1) + 1) := rfl
    constructor
    · intro h
      exact spell_dn1 a.f0 a.f1 b.f0 b.f1 y N _ _ _ _ w hN.symm hN1 ⟨hm.1, hm.2.2⟩ ⟨hla.1, hla.2, hlb.1, hlb.2⟩ hy c' rfl ea.symm hp hq (by simp only at h; omega) rfl rfl
    · intro h
      exact spell_dn0 a.f0 a.f1 b.f0 b.f1 y N _ _ w hN.symm hN1 ⟨hm.1, hm.2.2⟩ ⟨hla.1, hla.2, hlb.1, hlb.2⟩ hy c' rfl ea.symm hp hq (by simp only at h; omega)

set_option maxRecDepth 100000 in
set_option maxHeartbeats 6400000 in
theorem spellsBelow_t (A : Option Addr) (n c : Nat) (xs : List RTide) (y : Int) (w : World) (hn : n ≤ 1048576) (ha : Rd_Tide w w.heap.size A n xs) (h : TdOk n xs) (hy : lvok y) (N : Nat) (hN : N + 1 = n) :
    Calls Tryd.prog 45 #[.slice A n c, .int .i64 y] w fun e w' => ∃ B d, e = .returned (.slice B (spN xs y N).length d) ∧ Below w.heap.size w w' ∧ Wr_Spell w' w.heap.size B (spN xs y N).length (spN xs y N) := by
  have HA := Lib.hid ha
  have HV := Lib.hid h
  have HY := Lib.hid hy
  have h2 := h.2.1
  have h40 := h.2.2
  clear ha h hy
  go_enter Tryd.func45, Tryd.ntmps45
  go_wp2_with (first | (go_at_call 56; refine (flanks_t _ _ _ xs _ (by omega) hn HA.out).mono ?_; rintro e1 W3 ⟨FB, fd, rfl, b3, hw⟩; have HW := Lib.hid hw.rd; clear hw; have s3 := b3.size))
  have eN : n - 1 = N := by omega
  rw [eN] at HW
  clear eN
  go_loopw [5, 7, 8, 9, 10, 14] (fun v _ _ _ _ i wr => ∃ k : Nat, k ≤ N ∧ i = .int .i64 (k : Int) ∧ Below W3.heap.size W3 wr ∧ W3.heap.size ≤ wr.heap.size ∧ wr.ownsRow W3.heap.size 42 2 v (spN xs y k).length (csSpell (spN xs y k))) (fun _ _ _ _ _ i _ => N - (intOf i).toNat)
  case atStart => exact ⟨0, by omega, rfl, Below.refl _ _, Nat.le_refl _, World.ownsRow_nil _ _ _ _⟩
  case round =>
    obtain ⟨k, hk, rfl, hb, hz, hown⟩ := hrel
    have hsz := hb.size
    by_cases hlt : k < N
    · obtain ⟨fb, fo, rfl, hfb, hc⟩ := (HW.out.below hb).fl (by omega)
      obtain ⟨p0, p1, p2, p3⟩ := hc k hlt
      have hfw : fb < wr.heap.size := by omega
      obtain ⟨u1, u2⟩ := HV.out.up (k := k) (by omega)
      have hSB := fun W => spellBelow_any (xs.getD k zTide) (xs.getD (k + 1) zTide) y W ⟨(HV.out.m (k := k) (by omega)).1, u1, (HV.out.m (k := k + 1) (by omega)).2⟩ u2 (HV.out.l (k := k) (by omega)) (HV.out.l (k := k + 1) (by omega)) HY.out
      have HS := Lib.hid (show spN xs y (k + 1) = spStep (spN xs y k) (ptF (xs.getD k zTide) (xs.getD (k + 1) zTide) y) from rfl)
      have hll := spN_len xs y k
      have q0 : (xs.getD k zTide).f0 = tM xs k := rfl
      have q1 : (xs.getD k zTide).f1 = tL xs k := rfl
      have q2 : (xs.getD (k + 1) zTide).f0 = tM xs (k + 1) := rfl
      have q3 : (xs.getD (k + 1) zTide).f1 = tL xs (k + 1) := rfl
      rw [q0, q1, q2, q3] at hSB
      obtain ⟨s, hs⟩ : ∃ s, s = ptF (xs.getD k zTide) (xs.getD (k + 1) zTide) y := ⟨_, rfl⟩
      rw [← hs] at hSB HS
      have HSB := Lib.hid hSB
      clear hc hs hSB q0 q1 q2 q3 u1 u2
      generalize tM xs k = x0 at *
      generalize tL xs k = x1 at *
      generalize tM xs (k + 1) = x2 at *
      generalize tL xs (k + 1) = x3 at *
      generalize spN xs y k = L at *
      have hown2 := owns_below hown ((Below.refl wr.heap.size wr).alloc (Nat.le_refl _) (.cells #[.int .i64 x0, .int .i64 x1, .int .i64 x2, .int .i64 x3] 85))
      by_cases hno : s.f1 < s.f0
      · have HSK := Lib.hid (spStep_skip (L := L) hno)
        have HCA := Lib.hid (fun W => (HSB.out W).2 hno)
        clear HSB hno
        go_wp2_with (first | (go_at_call 57; refine (HCA.out _).mono ?_; rintro e4 W4 ⟨rfl, b4⟩; have s4 : wr.heap.size < W4.heap.size := (by have := b4.size; (try simp at this); omega); have hown4 := owns_below hown2 b4; have d4 : Below wr.heap.size wr W4 := (by repeat (first | assumption | exact Below.refl _ _ | (refine Below.trans ?_ (b4.mono (by first | omega | (simp; done) | (simp; omega)))) | (refine Below.setCell ?_ (by first | omega | (simp; done) | (simp; omega)) _) | apply below_drewN | apply Below.drew | (refine Below.alloc ?_ (by first | omega | (simp; done) | (simp; omega)) _)))))
        go_roundw
        case rel => exact ⟨k + 1, by omega, by go_num, hb.trans ((d4.mono hsz).trans ((Below.refl W3.heap.size W4).alloc (by omega) _)), by simp; omega, by rw [HS.out, HSK.out]; exact hown4.alloc _⟩
        case measure => simp [intOf]; omega
      · have HCA := Lib.hid (fun W => (HSB.out W).1 hno)
        have HNO := Lib.hid hno
        obtain ⟨s0, s1⟩ := s
        clear HSB hno
        simp only at HCA
        cases hl : L.length with
        | zero =>
          have HNEW := Lib.hid (show spStep L ⟨s0, s1⟩ = L ++ [⟨s0, s1⟩] by
            obtain rfl : L = [] := List.eq_nil_of_length_eq_zero hl
            exact spStep_nil HNO.out)
          have HL0 := Lib.hid hl
          rw [hl] at hown2
          obtain ⟨A0, c0, rfl, _⟩ := own_wrSpell hown2
          clear hl hown
          go_wp2_with (first | (go_at_call 57; refine (HCA.out _).mono ?_; rintro e4 W4 ⟨rfl, b4⟩; have s4 : wr.heap.size < W4.heap.size := (by have := b4.size; (try simp at this); omega); have hown4 := owns_below hown2 b4; have d4 : Below wr.heap.size wr W4 := (by repeat (first | assumption | exact Below.refl _ _ | (refine Below.trans ?_ (b4.mono (by first | omega | (simp; done) | (simp; omega)))) | (refine Below.setCell ?_ (by first | omega | (simp; done) | (simp; omega)) _) | apply below_drewN | apply Below.drew | (refine Below.alloc ?_ (by first | omega | (simp; done) | (simp; omega)) _))); have hown5 := fun (O : Obj) (nq : Nat) => owns_below (hown4.alloc O) (below_drewN (Below.refl _ _) nq)))
          go_quiet (fail)
          go_wp2_with (at_builtin; refine wplApp1Spell rfl _ _ rfl _ _ (by first | rfl | (simp; done)) _ _ _ L s0 s1 rfl (by exact hown5 _ _) rfl (by omega) (by first | omega | (simp; omega)) ?_; intro v1 w1 hown1 hb1 hz1)
          go_roundw
          case rel => exact ⟨k + 1, by omega, by go_num, hb.trans ((d4.mono hsz).trans ((below_drewN ((Below.refl W3.heap.size W4).alloc (by omega) _) _).trans hb1)), by simp at hz1; omega, by rw [HS.out, HNEW.out, List.length_append, HL0.out]; exact hown1⟩
          case measure => simp [intOf]; omega
        | succ m =>
          have HL0 := Lib.hid hl
          have hown := hown
          rw [hl] at hown
          obtain ⟨g, cap, rfl, hg0, hgw, hcap⟩ := own_form' hown (by omega)
          have hown2 := owns_below hown ((Below.refl wr.heap.size wr).alloc (Nat.le_refl _) (.cells #[.int .i64 x0, .int .i64 x1, .int .i64 x2, .int .i64 x3] 85))
          obtain ⟨⟨t0, t1⟩, tf0, tf1⟩ := own_atSpell hown2 (k := m) (by omega)
          have gm : decide ((m : Int) ≥ 0) = true := by simp
          have gm2 : (m : Int) < (m : Int) + 1 := by omega
          have gm3 : 0 ≤ (m : Int) := by omega
          have gm4 : m ≤ 100 := by omega
          have gm5 := IntWalk.i64_in (m : Int) (by omega)
          obtain ⟨z, hz2⟩ : ∃ z, z = L.getD m zSpell := ⟨_, rfl⟩
          rw [← hz2] at t0 t1
          by_cases he : z.f1 = s0
          · have HGO := Lib.hid (spStep_go HNO.out hl (show (L.getD m zSpell).f1 = s0 by rw [← hz2]; exact he))
            rw [← hz2] at HGO
            have HZ := Lib.hid hz2
            have ee : (z.f1 == s0) = true := by simpa using he
            obtain ⟨z0, z1⟩ := z
            simp only at t0 t1 HGO ee
            clear hl hown hz2 he
            go_wp2_with (first | (go_at_call 57; refine (HCA.out _).mono ?_; rintro e4 W4 ⟨rfl, b4⟩; have s4 : wr.heap.size < W4.heap.size := (by have := b4.size; (try simp at this); omega); have hown4 := owns_below hown2 b4; have d4 : Below wr.heap.size wr W4 := (by repeat (first | assumption | exact Below.refl _ _ | (refine Below.trans ?_ (b4.mono (by first | omega | (simp; done) | (simp; omega)))) | (refine Below.setCell ?_ (by first | omega | (simp; done) | (simp; omega)) _) | apply below_drewN | apply Below.drew | (refine Below.alloc ?_ (by first | omega | (simp; done) | (simp; omega)) _))); have hown5 := fun (O : Obj) (nq : Nat) => owns_below (hown4.alloc O) (below_drewN (Below.refl _ _) nq); have c1 := (b4.cell (p := ⟨g, m * 2 + 1, none⟩) (show g < _ by simp; omega)).trans t1; have cf1 := (b4.frozen (p := ⟨g, m * 2 + 1, none⟩) (show g < _ by simp; omega)).trans tf1; have hne : ¬ g = W4.heap.size := (by omega); have hne' : ¬ W4.heap.size = g := (by omega); have hg4 : g < W4.heap.size := (by omega); have AL4 := fun (O : Obj) => ((Below.refl W4.heap.size W4).alloc (Nat.le_refl _) O); have c2 : (W4.alloc (.cells #[.int .i64 s0, .int .i64 s1] 42)).cell? ⟨g, m * 2 + 1, none⟩ = _ := ((AL4 _).cell (p := ⟨g, m * 2 + 1, none⟩) (show g < W4.heap.size by omega)).trans c1; have cf2 : (W4.alloc (.cells #[.int .i64 s0, .int .i64 s1] 42)).frozen? ⟨g, m * 2 + 1, none⟩ = _ := ((AL4 _).frozen (p := ⟨g, m * 2 + 1, none⟩) (show g < W4.heap.size by omega)).trans cf1))
            go_quiet (fail)
            have c3 : ((W4.alloc (.cells #[.int .i64 s0, .int .i64 s1] 42)).drewN nq).cell? ⟨g, m * 2 + 1, none⟩ = _ := c2
            have cf3 : ((W4.alloc (.cells #[.int .i64 s0, .int .i64 s1] 42)).drewN nq).frozen? ⟨g, m * 2 + 1, none⟩ = _ := cf2
            have hown6 := hown5 (.cells #[.int .i64 s0, .int .i64 s1] 42) nq
            have d6 : Below W3.heap.size W3 ((W4.alloc (.cells #[.int .i64 s0, .int .i64 s1] 42)).drewN nq) := hb.trans ((d4.mono hsz).trans (below_drewN ((Below.refl W3.heap.size W4).alloc (by omega) _) _))
            have s6 : W3.heap.size ≤ ((W4.alloc (.cells #[.int .i64 s0, .int .i64 s1] 42)).drewN nq).heap.size := d6.size
            have e0 : ((W4.alloc (.cells #[.int .i64 s0, .int .i64 s1] 42)).drewN nq).cell? ⟨W4.heap.size, 1, none⟩ = some (.int .i64 s1) := (World.cell?_alloc_new (w := W4) #[.int .i64 s0, .int .i64 s1] 42 1).trans rfl
            clear c2 cf2 hown5 AL4 c1 cf1 hown4 hown2 t0 t1 tf0 tf1
            generalize (W4.alloc (.cells #[.int .i64 s0, .int .i64 s1] 42)).drewN nq = W6 at *
            go_wp2
            go_roundw
            case rel => exact ⟨k + 1, by omega, by go_num, d6.setCell (by exact hg0) _, by simpa [World.setCell] using s6, by
              rw [HS.out, HGO.out, List.length_set, HL0.out]
              have h6 := own_set1Spell hown6 (k := m) (by rw [HL0.out]; omega) s1
              rw [← HZ.out] at h6
              exact h6⟩
            case measure => simp [intOf]; omega
          · have HNEW := Lib.hid (spStep_new HNO.out hl (show ¬ (L.getD m zSpell).f1 = s0 by rw [← hz2]; exact he))
            have ee : (z.f1 == s0) = false := by simpa using he
            obtain ⟨z0, z1⟩ := z
            simp only at t0 t1 ee
            clear hl hown hz2 he
            go_wp2_with (first | (go_at_call 57; refine (HCA.out _).mono ?_; rintro e4 W4 ⟨rfl, b4⟩; have s4 : wr.heap.size < W4.heap.size := (by have := b4.size; (try simp at this); omega); have hown4 := owns_below hown2 b4; have d4 : Below wr.heap.size wr W4 := (by repeat (first | assumption | exact Below.refl _ _ | (refine Below.trans ?_ (b4.mono (by first | omega | (simp; done) | (simp; omega)))) | (refine Below.setCell ?_ (by first | omega | (simp; done) | (simp; omega)) _) | apply below_drewN | apply Below.drew | (refine Below.alloc ?_ (by first | omega | (simp; done) | (simp; omega)) _))); have hown5 := fun (O : Obj) (nq : Nat) => owns_below (hown4.alloc O) (below_drewN (Below.refl _ _) nq); have c1 := (b4.cell (p := ⟨g, m * 2 + 1, none⟩) (show g < _ by simp; omega)).trans t1; have hne : ¬ g = W4.heap.size := (by omega); have hne' : ¬ W4.heap.size = g := (by omega); have hg4 : g < W4.heap.size := (by omega); have AL4 := fun (O : Obj) => ((Below.refl W4.heap.size W4).alloc (Nat.le_refl _) O); have c2 : (W4.alloc (.cells #[.int .i64 s0, .int .i64 s1] 42)).cell? ⟨g, m * 2 + 1, none⟩ = _ := ((AL4 _).cell (p := ⟨g, m * 2 + 1, none⟩) (show g < W4.heap.size by omega)).trans c1))
            go_quiet (fail)
            go_wp2_with (at_builtin; refine wplApp1Spell rfl _ _ rfl _ _ (by first | rfl | (simp; done)) _ _ _ L s0 s1 rfl (by exact hown5 _ _) rfl (by omega) (by first | omega | (simp; omega)) ?_; intro v1 w1 hown1 hb1 hz1)
            go_roundw
            case rel => exact ⟨k + 1, by omega, by go_num, hb.trans ((d4.mono hsz).trans ((below_drewN ((Below.refl W3.heap.size W4).alloc (by omega) _) _).trans hb1)), by simp at hz1; omega, by rw [HS.out, HNEW.out, List.length_append, HL0.out]; exact hown1⟩
            case measure => simp [intOf]; omega
    · obtain rfl : k = N := by omega
      obtain ⟨B, d, rfl, hw⟩ := own_wrSpell hown
      have HWL := Lib.hid (hw.lower s3)
      clear hw
      go_wp2
      go_ret
      exact ⟨B, d, rfl, b3.trans (hb.mono s3), HWL.out⟩

end Go.Proofs.YthpnkkbinffmkaaDoor
