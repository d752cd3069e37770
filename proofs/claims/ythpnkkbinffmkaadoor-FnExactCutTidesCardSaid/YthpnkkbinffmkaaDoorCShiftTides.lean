import Derived.Test.YthpnkkbinffmkaaDoorTideJ
import Derived.Test.YthpnkkbinffmkaaDoorOwnTide
import Derived.Test.YthpnkkbinffmkaaDoorCatTT
import Derived.Test.YthpnkkbinffmkaaDoorIn
import Derived.Test.YthpnkkbinffmkaaDoorSent3
import Derived.Test.YthpnkkbinffmkaaDoorIx
namespace Go.Proofs.YthpnkkbinffmkaaDoor
open Go.RowKit

/- caps: (ka0 : la0 ≤ ca0) · sentinels: (hsent : Sent w B se0 se1 se2) -/

def shok (m l : Int) : Prop := (-100000 ≤ m ∧ m ≤ 100000) ∧ (-4000 ≤ l ∧ l ≤ 4000)
instance (m l : Int) : Decidable (shok m l) := by unfold shok; exact inferInstance
/-- the table for another place -/
def shN (xs : List RTide) (m l : Int) : Nat → List RTide
  | 0 => []
  | k + 1 => shN xs m l k ++ [⟨tM xs k + m, tL xs k + l⟩]
theorem shN_len (xs : List RTide) (m l : Int) (k : Nat) : (shN xs m l k).length = k := by induction k with | zero => rfl | succ k ih => simp [shN, ih]
theorem shN_at (xs : List RTide) (m l : Int) (k j : Nat) (h : j < (shN xs m l k).length) : (shN xs m l k)[j] = ⟨tM xs j + m, tL xs j + l⟩ := by
  induction k with
  | zero => simp [shN] at h
  | succ k ih =>
    simp only [shN, List.getElem_append]
    split
    · exact ih _
    · rename_i g
      rw [shN_len] at h g
      obtain rfl : j = k := by omega
      simp [shN_len]
def r0_ShiftTides (xa0 : List RTide) (a1 a2 : Int) : List RTide := if TdOk xa0.length xa0 ∧ shok a1 a2 then (if TdOk xa0.length (shN xa0 a1 a2 xa0.length) then shN xa0 a1 a2 xa0.length else []) else []
def r1_ShiftTides (xa0 : List RTide) (a1 a2 : Int) : Int := if TdOk xa0.length xa0 ∧ shok a1 a2 then (if TdOk xa0.length (shN xa0 a1 a2 xa0.length) then 0 else 5) else tcode xa0.length xa0 (shok a1 a2)
theorem len_r0_ShiftTides (xa0 : List RTide) (a1 a2 : Int) : (r0_ShiftTides xa0 a1 a2).length ≤ 1048576 := by
  unfold r0_ShiftTides
  split
  · rename_i h
    have := h.1.2.2
    split
    · rw [shN_len]; omega
    · simp
  · simp

theorem half_ofT {w : World} {lo b o n : Nat} {xs : List RTide} (h : Wr_Tide w lo (some ⟨b, o, none⟩) n xs) (f : Nat → RTide) : HalfR encTide 2 n b o f (fun j => xs.getD j zTide) 0 w := by
  have hl := h.len
  intro j hj i hi
  obtain ⟨b', o', e, _, _, hc⟩ := h.2 (by omega)
  injection e with e
  injection e with e1 e2
  subst e1
  subst e2
  show _ = (encTide (if j < 0 then f j else xs.getD j zTide))[i]? ∧ _
  rw [if_neg (Nat.not_lt_zero j), getDTide (by omega), ← flat_at encTide_len xs j i (by omega) hi]
  have := hc (j * 2 + i) (by rw [csTide_len]; omega)
  rw [← Nat.add_assoc] at this
  exact this

theorem wpApp1Tide {o : Oper} {a : Act} {K : Act → World → Prop} {Q : Exit → Act → World → Prop} (s x : Operand)
    (ho : o.op = .call { callee := .builtin .append, args := #[s, x], argTypes := #[26, 26] }) (W : World) (k : Nat) (hk : W.heap.size = k) (base n : Nat) (v : Value) (xs : List RTide) (x0 x1 : Int)
    (hs : a.eval s = v) (hown : W.ownsRow base 44 2 v n (csTide xs)) (hx : a.eval x = .slice (some ⟨k, 0, none⟩) 1 1) (hn : n ≤ 1048576) (hbase : base ≤ W.heap.size)
    (h : ∀ v' w', w'.ownsRow base 44 2 v' (n + 1) (csTide (xs ++ [⟨x0, x1⟩])) → Below base W w' → W.heap.size ≤ w'.heap.size → K (a.put o.dst v') w') :
    o.wp Tryd.prog a (W.alloc (.cells #[.int .i64 x0, .int .i64 x1] 44)) K Q := by
  refine wpAppTide s x ho _ base n 1 1 (k + 1) (some ⟨k, 0, none⟩) v (csTide xs) [⟨x0, x1⟩] hs (owns_below hown ((Below.refl _ _).alloc (Nat.le_refl _) _)) hx (rd_newTide W x0 x1 k hk) (by omega) (by simp; omega) ?_
  intro v' w' h1 h2 h3
  exact h v' w' (by rw [csTide_app]; exact h1) (((Below.refl _ _).alloc hbase _).trans h2) (Nat.le_trans (by simp) h3)

set_option maxHeartbeats 800000 in
theorem cloneTT_t (ad : Addr) (n c : Nat) (xs : List RTide) (w : World) (hn : n ≤ 1048576) (ha : Rd_Tide w w.heap.size (some ad) n xs) :
    Calls Tryd.prog 52 #[.slice (some ad) n c] w fun e w' => ∃ v, e = .returned v ∧ Below w.heap.size w w' ∧ w'.ownsRow w.heap.size 44 2 v n (csTide xs) := by
  have q1 : ∀ (w : World) (a : Option Addr) (n c n' c' : Nat), (binOp .eql 56 (.slice a n c) (.slice none n' c')).run Tryd.prog w = .ok (.bool a.isNone) w := fun w a n c n' c' => Lib.run_eql_slice_nil w _ _ a n c n' c' Tryd.underlying56
  have HA := Lib.hid ha
  have hz : w.heap.size ≤ (w.alloc (.cells #[] 44)).heap.size := by simp
  clear ha
  go_enter Tryd.func52, Tryd.ntmps52
  go_wp2_with (at_builtin; refine wplAppTT rfl _ _ rfl _ w.heap.size 0 n c w.heap.size _ _ [] xs rfl (ownsR_made rfl (Nat.le_refl _)) rfl (HA.out.below ((Below.refl _ _).alloc (Nat.le_refl _) _)) (by omega) hz ?_; intro v1 w1 hown1 hb1 hz1)
  go_ret
  exact ⟨_, rfl, (by repeat (first | assumption | exact Below.refl _ _ | (refine Below.trans ?_ (hb1.mono (by first | omega | (simp; done) | (simp; omega)))) | (refine Below.setCell ?_ (by first | omega | (simp; done) | (simp; omega)) _) | apply below_drewN | apply Below.drew | (refine Below.alloc ?_ (by first | omega | (simp; done) | (simp; omega)) _))), by simpa using hown1⟩

set_option maxRecDepth 100000 in
set_option maxHeartbeats 3200000 in
theorem specC_ShiftTides (a0 : Option Addr) (la0 ca0 : Nat) (xa0 : List RTide) (a1 : Int) (a2 : Int) (w : World) (ha0 : la0 ≤ 1048576) (ra0 : Rd_Tide w w.heap.size a0 la0 xa0) (fa0 : Wf_Tide xa0) (ha1 : (Lit.int .i64 a1).wf = true) (ha2 : (Lit.int .i64 a2).wf = true) (ka0 : la0 ≤ ca0) :
    Calls Tryd.prog 12 #[.slice a0 la0 ca0, .int .i64 a1, .int .i64 a2] w fun e w' => ∃ B0 dB0, e = .returned (.tuple #[.slice B0 (r0_ShiftTides xa0 a1 a2).length dB0, .int .i64 (r1_ShiftTides xa0 a1 a2)]) ∧ Below w.heap.size w w' ∧ Wr_Tide w' w.heap.size B0 (r0_ShiftTides xa0 a1 a2).length (r0_ShiftTides xa0 a1 a2) := by
  have hln := ra0.len
  have RA := Lib.hid ra0
  clear ra0 fa0 ha1 ha2 ka0
  by_cases h : TdOk la0 xa0 ∧ shok a1 a2
  · obtain ⟨S, hS⟩ : ∃ S, shN xa0 a1 a2 la0 = S := ⟨_, rfl⟩
    obtain ⟨b, hb0, hrr, hcc⟩ : ∃ b : Bool, (b = true ↔ TdOk la0 S) ∧ r0_ShiftTides xa0 a1 a2 = (if b then S else []) ∧ r1_ShiftTides xa0 a1 a2 = (if b then 0 else 5) := by
      have k0 : r0_ShiftTides xa0 a1 a2 = if TdOk la0 S then S else [] := by unfold r0_ShiftTides; rw [hln, if_pos h, hS]
      have k1 : r1_ShiftTides xa0 a1 a2 = if TdOk la0 S then 0 else 5 := by unfold r1_ShiftTides; rw [hln, if_pos h, hS]
      by_cases g : TdOk la0 S
      · exact ⟨true, iff_of_true rfl g, by rw [k0, if_pos g]; rfl, by rw [k1, if_pos g]; rfl⟩
      · exact ⟨false, iff_of_false (by simp) g, by rw [k0, if_neg g]; rfl, by rw [k1, if_neg g]; rfl⟩
    rw [hrr, hcc]
    have HBB := Lib.hid hb0
    have HSS := Lib.hid hS
    have HV := Lib.hid h.1
    have hSl : S.length = la0 := by rw [← hS, shN_len]
    have h2 := h.1.2.1
    have h40 := h.1.2.2
    have hsh := h.2
    unfold shok at hsh
    have HOK := Lib.hid (show (true = true ↔ TdOk la0 xa0) from iff_of_true rfl h.1)
    obtain ⟨⟨s1, s2⟩, s3, s4⟩ := hsh
    clear h hb0 hrr hcc hS
    go_enter Tryd.func12, Tryd.ntmps12
    go_wp2_with (first | (go_at_call 35; refine (l08Ok_any _ _ _ xa0 _ ha0 RA.out _ HOK.out).mono ?_; rintro e0 W0 ⟨rfl, b0⟩; have s0 := b0.size) | (go_at_call 36; first | (refine (in_t _ _ _ _ (by omega)).mono ?_; rintro e w' ⟨rfl, rfl⟩) | (refine (in_f _ _ _ _ (by omega)).mono ?_; rintro e w' ⟨rfl, rfl⟩)))
    go_loopw [8, 9] (fun v i wr => ∃ k : Nat, k ≤ la0 ∧ i = .int .i64 (k : Int) ∧ Below w.heap.size w wr ∧ w.heap.size ≤ wr.heap.size ∧ wr.ownsRow w.heap.size 44 2 v k (csTide (shN xa0 a1 a2 k))) (fun _ i _ => la0 - (intOf i).toNat)
    case atStart => exact ⟨0, by omega, rfl, (by repeat (first | assumption | exact Below.refl _ _ | (refine Below.trans ?_ (b0.mono (by first | omega | (simp; done) | (simp; omega)))) | (refine Below.setCell ?_ (by first | omega | (simp; done) | (simp; omega)) _) | apply below_drewN | apply Below.drew | (refine Below.alloc ?_ (by first | omega | (simp; done) | (simp; omega)) _))), by simp; omega, ownsR_made rfl s0⟩
    case round =>
      obtain ⟨k, hk, rfl, hb, hz, hown⟩ := hrel
      by_cases hlt : k < la0
      · obtain ⟨ab, o, rfl, hbB, hc⟩ := (RA.out.below hb).ml (by omega)
        obtain ⟨p0, p1⟩ := hc k hlt
        have hm0 := HV.out.m (k := k) hlt
        have hl0 := HV.out.l (k := k) hlt
        have HS := Lib.hid (show shN xa0 a1 a2 k ++ [⟨tM xa0 k + a1, tL xa0 k + a2⟩] = shN xa0 a1 a2 (k + 1) from rfl)
        clear hc
        generalize tM xa0 k = x0 at *
        generalize tL xa0 k = x1 at *
        generalize shN xa0 a1 a2 k = L at *
        have f1 := IntWalk.i64_in (x0 + a1) (by omega)
        have f2 := IntWalk.i64_in (x1 + a2) (by omega)
        have hab : ab < wr.heap.size := by omega
        have AL := fun (O : Obj) => ((Below.refl wr.heap.size wr).drew.alloc (Nat.le_refl _) O)
        have g4 : (k : Int) < (la0 : Int) := by omega
        go_wp2_with fail
        refine wp_region_held_drew (S := fun w' => w'.cell? ⟨ab, o + k * 2, none⟩ = some (.int .i64 x0) ∧ w'.cell? ⟨ab, o + k * 2 + 1, none⟩ = some (.int .i64 x1)) (by kernel_rfl) ⟨p0, p1⟩ (fun hHeld => ?_)
        ((refine wpAnyH_take (i := 0) (oi := ⟨some 28, _, _, _, _, _⟩) (v := ?_) rfl (by kernel_rfl) (by kernel_rfl) (by kernel_rfl) (fun _ _ _ h => h) (Or.inl ⟨by rfl, ?_⟩) (by assumption) ?_; rotate_left 1; (focus (intro w hSw; (try dsimp only at hSw); go_simp <;> try (first | (with_reducible rfl) | (rw [if_neg (by omega)])))); try simp only [Act.put, List.setIfInBounds_toArray, List.set_cons_zero, List.set_cons_succ]); (refine wpAnyH_take (i := 1) (oi := ⟨some 29, _, _, _, _, _⟩) (v := ?_) rfl (by kernel_rfl) (by kernel_rfl) (by kernel_rfl) (fun _ _ _ h => h) (Or.inl ⟨by rfl, ?_⟩) (by assumption) ?_; rotate_left 1; (focus (intro w hSw; (try dsimp only at hSw); go_simp <;> try (first | (with_reducible rfl) | (rw [if_neg (by omega)])))); try simp only [Act.put, List.setIfInBounds_toArray, List.set_cons_zero, List.set_cons_succ]); (refine wpAnyH_take (i := 2) (oi := ⟨some 30, _, _, _, _, _⟩) (v := ?_) rfl (by kernel_rfl) (by kernel_rfl) (by kernel_rfl) (fun _ _ _ h => h) (Or.inl ⟨by rfl, ?_⟩) (by assumption) ?_; rotate_left 1; (focus (intro w hSw; (try dsimp only at hSw); go_simp <;> try (first | (with_reducible rfl) | (rw [if_neg (by omega)])))); try simp only [Act.put, List.setIfInBounds_toArray, List.set_cons_zero, List.set_cons_succ]); (refine wpAnyH_take (i := 3) (oi := ⟨some 31, _, _, _, _, _⟩) (v := ?_) rfl (by kernel_rfl) (by kernel_rfl) (by kernel_rfl) (fun _ _ _ h => h) (Or.inl ⟨by rfl, ?_⟩) (by assumption) ?_; rotate_left 1; (focus (intro w hSw; (try dsimp only at hSw); go_simp <;> try (first | (with_reducible rfl) | (rw [if_neg (by omega)])))); try simp only [Act.put, List.setIfInBounds_toArray, List.set_cons_zero, List.set_cons_succ]); (refine wpAnyH_take (i := 4) (oi := ⟨some 32, _, _, _, _, _⟩) (v := ?_) rfl (by kernel_rfl) (by kernel_rfl) (by kernel_rfl) (fun _ _ _ h => h) (Or.inl ⟨by rfl, ?_⟩) (by assumption) ?_; rotate_left 1; (focus (intro w hSw; (try dsimp only at hSw); go_simp <;> try (first | (with_reducible rfl) | (rw [if_neg (by omega)])))); try simp only [Act.put, List.setIfInBounds_toArray, List.set_cons_zero, List.set_cons_succ]); (refine wpAnyH_take (i := 5) (oi := ⟨some 33, _, _, _, _, _⟩) (v := ?_) rfl (by kernel_rfl) (by kernel_rfl) (by kernel_rfl) (fun _ _ _ h => h) (Or.inl ⟨by rfl, ?_⟩) (by assumption) ?_; rotate_left 1; (focus (intro w hSw; (try dsimp only at hSw); go_simp <;> try (first | (with_reducible rfl) | (rw [if_neg (by omega)])))); try simp only [Act.put, List.setIfInBounds_toArray, List.set_cons_zero, List.set_cons_succ]); (refine wpAnyH_take (i := 6) (oi := ⟨some 34, _, _, _, _, _⟩) (v := ?_) rfl (by kernel_rfl) (by kernel_rfl) (by kernel_rfl) (fun _ _ _ h => h) (Or.inl ⟨by rfl, ?_⟩) (by assumption) ?_; rotate_left 1; (focus (intro w hSw; (try dsimp only at hSw); go_simp <;> try (first | (with_reducible rfl) | (rw [if_neg (by omega)])))); try simp only [Act.put, List.setIfInBounds_toArray, List.set_cons_zero, List.set_cons_succ]); (refine wpAnyH_take (i := 7) (oi := ⟨some 35, _, _, _, _, _⟩) (v := ?_) rfl (by kernel_rfl) (by kernel_rfl) (by kernel_rfl) (fun _ _ _ h => h) (Or.inl ⟨by rfl, ?_⟩) (by assumption) ?_; rotate_left 1; (focus (intro w hSw; (try dsimp only at hSw); go_simp <;> try (first | (with_reducible rfl) | (rw [if_neg (by omega)])))); try simp only [Act.put, List.setIfInBounds_toArray, List.set_cons_zero, List.set_cons_succ]); (refine wpAnyH_take (i := 8) (oi := ⟨some 36, _, _, _, _, _⟩) (v := ?_) rfl (by kernel_rfl) (by kernel_rfl) (by kernel_rfl) (fun _ _ _ h => h) (Or.inl ⟨by rfl, ?_⟩) (by assumption) ?_; rotate_left 1; (focus (intro w hSw; (try dsimp only at hSw); go_simp <;> try (first | (with_reducible rfl) | (rw [if_neg (by omega)])))); try simp only [Act.put, List.setIfInBounds_toArray, List.set_cons_zero, List.set_cons_succ]); (refine wpAnyH_take (i := 9) (oi := ⟨some 37, _, _, _, _, _⟩) (v := ?_) rfl (by kernel_rfl) (by kernel_rfl) (by kernel_rfl) (fun _ _ _ h => h) (Or.inl ⟨by rfl, ?_⟩) (by assumption) ?_; rotate_left 1; (focus (intro w hSw; (try dsimp only at hSw); go_simp <;> try (first | (with_reducible rfl) | (rw [if_neg (by omega)])))); try simp only [Act.put, List.setIfInBounds_toArray, List.set_cons_zero, List.set_cons_succ]); (refine wpAnyH_take (i := 10) (oi := ⟨some 38, _, _, _, _, _⟩) (v := ?_) rfl (by kernel_rfl) (by kernel_rfl) (by kernel_rfl) (fun _ _ _ h => h) (Or.inl ⟨by rfl, ?_⟩) (by assumption) ?_; rotate_left 1; (focus (intro w hSw; (try dsimp only at hSw); go_simp <;> try (first | (with_reducible rfl) | (rw [if_neg (by omega)])))); try simp only [Act.put, List.setIfInBounds_toArray, List.set_cons_zero, List.set_cons_succ]); (refine wpAnyH_take (i := 11) (oi := ⟨some 39, _, _, _, _, _⟩) (v := ?_) rfl (by kernel_rfl) (by kernel_rfl) (by kernel_rfl) (fun _ _ _ h => h) (Or.inl ⟨by rfl, ?_⟩) (by assumption) ?_; rotate_left 1; (focus (intro w hSw; (try dsimp only at hSw); go_simp <;> try (first | (with_reducible rfl) | (rw [if_neg (by omega)])))); try simp only [Act.put, List.setIfInBounds_toArray, List.set_cons_zero, List.set_cons_succ]); (refine wpAnyH_take (i := 12) (oi := ⟨some 40, _, _, _, _, _⟩) (v := ?_) rfl (by kernel_rfl) (by kernel_rfl) (by kernel_rfl) (fun _ _ _ h => h) (Or.inl ⟨by rfl, ?_⟩) (by assumption) ?_; rotate_left 1; (focus (intro w hSw; (try dsimp only at hSw); go_simp <;> try (first | (with_reducible rfl) | (rw [if_neg (by omega)])))); try simp only [Act.put, List.setIfInBounds_toArray, List.set_cons_zero, List.set_cons_succ]); (refine wpAnyH_take (i := 13) (oi := ⟨some 41, _, _, _, _, _⟩) (v := ?_) rfl (by kernel_rfl) (by kernel_rfl) (by kernel_rfl) (fun _ _ _ h => h) (Or.inl ⟨by rfl, ?_⟩) (by assumption) ?_; rotate_left 1; (focus (intro w hSw; (try dsimp only at hSw); go_simp <;> try (first | (with_reducible rfl) | (rw [if_neg (by omega)])))); try simp only [Act.put, List.setIfInBounds_toArray, List.set_cons_zero, List.set_cons_succ]); (refine wpAnyH_take (i := 14) (oi := ⟨some 42, _, _, _, _, _⟩) (v := ?_) rfl (by kernel_rfl) (by kernel_rfl) (by kernel_rfl) (fun _ _ _ h => h) (Or.inl ⟨by rfl, ?_⟩) (by assumption) ?_; rotate_left 1; (focus (intro w hSw; (try dsimp only at hSw); go_simp <;> try (first | (with_reducible rfl) | (rw [if_neg (by omega)])))); try simp only [Act.put, List.setIfInBounds_toArray, List.set_cons_zero, List.set_cons_succ]); (refine wpAnyH_take (i := 15) (oi := ⟨some 43, _, _, _, _, _⟩) (v := ?_) rfl (by kernel_rfl) (by kernel_rfl) (by kernel_rfl) (fun _ _ _ h => h) (Or.inl ⟨by rfl, ?_⟩) (by assumption) ?_; rotate_left 1; (focus (intro w hSw; (try dsimp only at hSw); go_simp <;> try (first | (with_reducible rfl) | (rw [if_neg (by omega)])))); try simp only [Act.put, List.setIfInBounds_toArray, List.set_cons_zero, List.set_cons_succ]))
        refine wpAnyH_ready (rs := [16]) (by kernel_rfl) (by simp) ?_
        refine AllReadyH.cons (o := ⟨some 44, _, _, _, _, _⟩) rfl (fun K hK => ?_) AllReadyH.nil
        go_simp
        clear hHeld
        (refine hK.out _ _ ?_ (fun hHeld => ?_))
        · exact ⟨((AL _).cell (p := ⟨ab, _, none⟩) hab).trans p0, ((AL _).cell (p := ⟨ab, _, none⟩) hab).trans p1⟩
        try simp only [Act.put, List.setIfInBounds_toArray, List.set_cons_zero, List.set_cons_succ]
        refine wpAnyH_ready (rs := [17]) (by kernel_rfl) (by simp) ?_
        refine AllReadyH.cons (o := ⟨some 45, _, _, _, _, _⟩) rfl (fun K hK => ?_) AllReadyH.nil
        refine wpApp1Tide (.tmp 28) (.tmp 44) rfl wr.drew _ (by rfl) _ _ _ L (x0 + a1) (x1 + a2) rfl (show World.ownsRow wr.drew _ _ _ _ _ _ from hown) rfl (by omega) (by exact hz) ?_
        intro v1 w1 hown1 hb1 hz1
        have HOWN := Lib.hid hown1
        have hb2 : Below w.heap.size wr w1 := below_drew2 hb1
        have hz2 : wr.heap.size ≤ w1.heap.size := hz1
        clear hown1 hb1 hz1
        clear hHeld
        (refine hK.out _ _ ?_ (fun hHeld => ?_))
        · exact ⟨(hb2.cell (p := ⟨ab, _, none⟩) hbB).trans p0, (hb2.cell (p := ⟨ab, _, none⟩) hbB).trans p1⟩
        ((refine wpAnyH_take (i := 18) (oi := ⟨some 8, _, _, _, _, _⟩) (v := ?_) rfl (by kernel_rfl) (by kernel_rfl) (by kernel_rfl) (fun _ _ _ h => h) (Or.inl ⟨by rfl, ?_⟩) (by assumption) ?_; rotate_left 1; (focus (intro w hSw; (try dsimp only at hSw); go_simp <;> try (first | (with_reducible rfl) | (rw [if_neg (by omega)])))); try simp only [Act.put, List.setIfInBounds_toArray, List.set_cons_zero, List.set_cons_succ]))
        refine wpAnyH_done (by kernel_rfl) ?_ _
        go_wp2
        go_roundw
        case rel => exact ⟨k + 1, by omega, by go_num, hb.trans hb2, by omega, by have h3 := HOWN.out; rw [HS.out] at h3; exact h3⟩
        case measure => simp [intOf]; omega
      · obtain rfl : k = la0 := by omega
        rw [HSS.out] at hown
        obtain ⟨B, d, rfl, hw⟩ := own_wrTide hown
        have HW := Lib.hid hw
        clear hown hw
        cases b with
        | true =>
          go_wp2_with (first | (go_at_call 35; refine (l08Ok_any _ _ _ S _ ha0 (HW.out.rd.mono (by first | omega | (simp; done) | (simp; omega))) _ HBB.out).mono ?_; rintro e5 W5 ⟨rfl, b5⟩))
          go_ret2
          first | exact ⟨B, ⟨d, rfl⟩, hb.trans (b5.mono hz), HW.out.below b5⟩ | exact ⟨B, d, by simp [hSl], hb.trans (b5.mono hz), by simpa [hSl] using HW.out.below b5⟩
        | false =>
          go_wp2_with (first | (go_at_call 35; refine (l08Ok_any _ _ _ S _ ha0 (HW.out.rd.mono (by first | omega | (simp; done) | (simp; omega))) _ HBB.out).mono ?_; rintro e5 W5 ⟨rfl, b5⟩))
          go_ret2
          first | exact ⟨none, ⟨0, rfl⟩, hb.trans (b5.mono hz), rfl, fun h => absurd h (by simp)⟩ | exact ⟨none, 0, rfl, hb.trans (b5.mono hz), rfl, fun h => absurd h (by simp)⟩
  · have e0 : r0_ShiftTides xa0 a1 a2 = [] := by unfold r0_ShiftTides; rw [hln, if_neg h]
    have e1 : r1_ShiftTides xa0 a1 a2 = tcode la0 xa0 (shok a1 a2) := by unfold r1_ShiftTides; rw [hln, if_neg h]
    rw [e0, e1]
    by_cases h1 : TdOk la0 xa0
    · have hq : ¬ shok a1 a2 := fun g => h ⟨h1, g⟩
      rw [tcode_no h1 hq]
      have HOK := Lib.hid (show (true = true ↔ TdOk la0 xa0) from iff_of_true rfl h1)
      unfold shok at hq
      clear e0 e1 h h1
      by_cases g1 : -100000 ≤ a1 ∧ a1 ≤ 100000
      · have g2 : ¬ (-4000 ≤ a2 ∧ a2 ≤ 4000) := fun e => hq ⟨g1, e⟩
        obtain ⟨g3, g4⟩ := g1
        clear hq
        go_enter Tryd.func12, Tryd.ntmps12
        go_wp2_with (first | (go_at_call 35; refine (l08Ok_any _ _ _ xa0 _ ha0 RA.out _ HOK.out).mono ?_; rintro e0 W0 ⟨rfl, b0⟩; have s0 := b0.size) | (go_at_call 36; first | (refine (in_t _ _ _ _ (by omega)).mono ?_; rintro e w' ⟨rfl, rfl⟩) | (refine (in_f _ _ _ _ (by omega)).mono ?_; rintro e w' ⟨rfl, rfl⟩)))
        go_ret2
        exact ⟨none, 0, rfl, b0, rfl, fun h => absurd h (by simp)⟩
      · clear hq
        go_enter Tryd.func12, Tryd.ntmps12
        go_wp2_with (first | (go_at_call 35; refine (l08Ok_any _ _ _ xa0 _ ha0 RA.out _ HOK.out).mono ?_; rintro e0 W0 ⟨rfl, b0⟩; have s0 := b0.size) | (go_at_call 36; first | (refine (in_t _ _ _ _ (by omega)).mono ?_; rintro e w' ⟨rfl, rfl⟩) | (refine (in_f _ _ _ _ (by omega)).mono ?_; rintro e w' ⟨rfl, rfl⟩)))
        go_ret2
        exact ⟨none, 0, rfl, b0, rfl, fun h => absurd h (by simp)⟩
    · rw [tcode_bad h1]
      have HOK := Lib.hid (show (false = true ↔ TdOk la0 xa0) from iff_of_false (by simp) h1)
      clear e0 e1 h h1
      go_enter Tryd.func12, Tryd.ntmps12
      go_wp2_with (first | (go_at_call 35; refine (l08Ok_any _ _ _ xa0 _ ha0 RA.out _ HOK.out).mono ?_; rintro e0 W0 ⟨rfl, b0⟩; have s0 := b0.size))
      go_ret2
      exact ⟨none, 0, rfl, b0, rfl, fun h => absurd h (by simp)⟩

set_option maxRecDepth 100000 in
set_option maxHeartbeats 3200000 in
theorem shifted_any (A : Option Addr) (n c : Nat) (xs : List RTide) (a1 a2 : Int) (w : World) (se0 se1 se2 : Addr) (hs : Sent w w.heap.size se0 se1 se2) (hn : n ≤ 1048576) (ha : Rd_Tide w w.heap.size A n xs) (h : TdOk n xs) (hsh : shok a1 a2) (S : List RTide) (hS : shN xs a1 a2 n = S) (b : Bool) (hb0 : b = true ↔ TdOk n S) :
    Calls Tryd.prog 38 #[.slice A n c, .int .i64 a1, .int .i64 a2] w fun e w' => Below w.heap.size w w' ∧ (b = true → ∃ B d, e = .returned (.tuple #[.slice B n d, .nilIface]) ∧ Wr_Tide w' w.heap.size B n S) ∧ (b = false → e = .returned (.tuple #[.slice none 0 0, .iface 122 (.pointer (some se0))])) := by
  have HA := Lib.hid ha
  have HV := Lib.hid h
  have HSN := Lib.hid hs
  have HSS := Lib.hid hS
  have HBB := Lib.hid hb0
  have hxl := ha.len
  have h2 := h.2.1
  have h40 := h.2.2
  unfold shok at hsh
  obtain ⟨⟨s1, s2⟩, s3, s4⟩ := hsh
  obtain ⟨ad, o, rfl, _, _⟩ := ha.ml (by omega)
  clear ha h hs hS hb0
  go_enter Tryd.func38, Tryd.ntmps38
  go_wp2_with (first | (go_at_call 52; refine (cloneTT_t _ _ _ xs _ hn HA.out).mono ?_; rintro e3 W3 ⟨v3, rfl, b3, hown⟩; have s5 := b3.size; obtain ⟨g, cap, rfl, hg0, hg1, hcap⟩ := own_form' hown (by omega)))
  obtain ⟨A', c', eA, hw⟩ := own_wrTide hown
  injection eA with eA _ eC
  subst eA
  subst eC
  have HH := Lib.hid (half_ofT hw (fun j => ⟨tM xs j + a1, tL xs j + a2⟩))
  clear hw hown
  go_loopw [9, 14] (fun _ i wr => ∃ q : Nat, q ≤ n ∧ i = .int .i64 (q : Int) ∧ Below w.heap.size w wr ∧ g < wr.heap.size ∧ HalfR encTide 2 n g 0 (fun j => ⟨tM xs j + a1, tL xs j + a2⟩) (fun j => xs.getD j zTide) q wr) (fun _ i _ => n - (intOf i).toNat)
  case atStart => exact ⟨0, by omega, rfl, b3, hg1, HH.out⟩
  case round =>
    obtain ⟨q, hq, rfl, hb, hz, hr⟩ := hrel
    by_cases hlt : q < n
    · obtain ⟨m0, n0⟩ := hr q hlt 0 (by omega)
      obtain ⟨m1, n1⟩ := hr q hlt 1 (by omega)
      rw [if_neg (Nat.lt_irrefl q)] at m0 m1
      simp only [encTide, Nat.zero_add, Nat.add_zero] at m0 n0 m1 n1
      have HR := Lib.hid hr
      have hm0 := HV.out.m (k := q) hlt
      have hl0 := HV.out.l (k := q) hlt
      have HX := Lib.hid (show encTide ⟨tM xs q + a1, tL xs q + a2⟩ = [Value.int .i64 (tM xs q + a1), .int .i64 (tL xs q + a2)] from rfl)
      replace m0 : wr.cell? ⟨g, q * 2, none⟩ = some (.int .i64 (tM xs q)) := m0
      replace m1 : wr.cell? ⟨g, q * 2 + 1, none⟩ = some (.int .i64 (tL xs q)) := m1
      obtain ⟨x0, hx0⟩ : ∃ x, x = tM xs q := ⟨_, rfl⟩
      obtain ⟨x1, hx1⟩ : ∃ x, x = tL xs q := ⟨_, rfl⟩
      rw [← hx0] at m0 hm0
      rw [← hx1] at m1 hl0
      rw [← hx0, ← hx1] at HX
      have HX0 := Lib.hid hx0
      have HX1 := Lib.hid hx1
      clear hr hx0 hx1
      have f1 := IntWalk.i64_in (x0 + a1) (by omega)
      have f2 := IntWalk.i64_in (x1 + a2) (by omega)
      go_wp2
      go_roundw
      case rel => exact ⟨q + 1, by omega, by go_num, (by repeat (first | assumption | exact Below.refl _ _ | (refine Below.setCell ?_ (by first | omega | (simp; done) | (simp; omega)) _) | apply below_drewN | apply Below.drew | (refine Below.alloc ?_ (by first | omega | (simp; done) | (simp; omega)) _))), by simpa [World.setCell] using hz, by
        have h2 := HR.out.step encTide_len hlt [Value.int .i64 (x0 + a1), .int .i64 (x1 + a2)] (by show _ = encTide ⟨tM xs q + a1, tL xs q + a2⟩; rw [← HX0.out, ← HX1.out, HX.out])
        simp only [Nat.zero_add] at h2
        exact h2⟩
      case measure => simp [intOf]; omega
    · obtain rfl : q = n := by omega
      have hw2 : Wr_Tide wr w.heap.size (some ⟨g, 0, none⟩) q S := hr.done encTide_len (by rw [← HSS.out, shN_len]) (fun j hj => by have e := HSS.out; subst e; exact shN_at _ _ _ _ _ hj) hg0 hz
      have HW := Lib.hid hw2
      have hzz := hb.size
      clear hr hw2
      cases b with
      | true =>
        go_wp2_with (first | (go_at_call 50; refine (validTides_any _ _ _ S _ hn hcap (HW.out.rd.mono (by first | omega | (simp; done) | (simp; omega))) _ HBB.out).mono ?_; rintro e5 W5 ⟨rfl, b5⟩))
        go_ret2
        exact ⟨hb.trans (b5.mono hzz), _, ⟨_, rfl⟩, HW.out.below b5⟩
      | false =>
        go_wp2_with (first | (go_at_call 50; refine (validTides_any _ _ _ S _ hn hcap (HW.out.rd.mono (by first | omega | (simp; done) | (simp; omega))) _ HBB.out).mono ?_; rintro e5 W5 ⟨rfl, b5⟩; have d5 : Below w.heap.size w W5 := hb.trans (b5.mono hzz); have g1 := (HSN.out.below d5).v0))
        go_quiet (fail)
        go_wp2
        go_ret2
        exact ⟨d5.trans (by repeat (first | assumption | exact Below.refl _ _ | (refine Below.setCell ?_ (by first | omega | (simp; done) | (simp; omega)) _) | apply below_drewN | apply Below.drew | (refine Below.alloc ?_ (by first | omega | (simp; done) | (simp; omega)) _))), rfl⟩

set_option maxRecDepth 100000 in
set_option maxHeartbeats 3200000 in
theorem implC_ShiftTides (a0 : Option Addr) (la0 ca0 : Nat) (xa0 : List RTide) (a1 : Int) (a2 : Int) (w : World) (ha0 : la0 ≤ 1048576) (ra0 : Rd_Tide w w.heap.size a0 la0 xa0) (fa0 : Wf_Tide xa0) (ha1 : (Lit.int .i64 a1).wf = true) (ha2 : (Lit.int .i64 a2).wf = true) (ka0 : la0 ≤ ca0) (se0 se1 se2 : Addr) (hsent : Sent w w.heap.size se0 se1 se2) :
    Calls Tryd.prog 13 #[.slice a0 la0 ca0, .int .i64 a1, .int .i64 a2] w fun e w' => ∃ B0 dB0, e = .returned (.tuple #[.slice B0 (r0_ShiftTides xa0 a1 a2).length dB0, .int .i64 (r1_ShiftTides xa0 a1 a2)]) ∧ Below w.heap.size w w' ∧ Wr_Tide w' w.heap.size B0 (r0_ShiftTides xa0 a1 a2).length (r0_ShiftTides xa0 a1 a2) := by
  have hln := ra0.len
  have RA := Lib.hid ra0
  have HSN := Lib.hid hsent
  clear ra0 fa0 ha1 ha2 hsent
  by_cases h : TdOk la0 xa0 ∧ shok a1 a2
  · obtain ⟨S, hS⟩ : ∃ S, shN xa0 a1 a2 la0 = S := ⟨_, rfl⟩
    obtain ⟨b, hb0, hrr, hcc⟩ : ∃ b : Bool, (b = true ↔ TdOk la0 S) ∧ r0_ShiftTides xa0 a1 a2 = (if b then S else []) ∧ r1_ShiftTides xa0 a1 a2 = (if b then 0 else 5) := by
      have k0 : r0_ShiftTides xa0 a1 a2 = if TdOk la0 S then S else [] := by unfold r0_ShiftTides; rw [hln, if_pos h, hS]
      have k1 : r1_ShiftTides xa0 a1 a2 = if TdOk la0 S then 0 else 5 := by unfold r1_ShiftTides; rw [hln, if_pos h, hS]
      by_cases g : TdOk la0 S
      · exact ⟨true, iff_of_true rfl g, by rw [k0, if_pos g]; rfl, by rw [k1, if_pos g]; rfl⟩
      · exact ⟨false, iff_of_false (by simp) g, by rw [k0, if_neg g]; rfl, by rw [k1, if_neg g]; rfl⟩
    rw [hrr, hcc]
    have HBB := Lib.hid hb0
    have HSS := Lib.hid hS
    have HV := Lib.hid h.1
    have hSl : S.length = la0 := by rw [← hS, shN_len]
    have h2 := h.1.2.1
    have h40 := h.1.2.2
    have hsh := h.2
    unfold shok at hsh
    have HC := Lib.hid (tcode_ok h.1 h.2)
    have HSH := Lib.hid h.2
    have HDE := Lib.hid (fun (_ : TdOk la0 xa0) => show true = decide (shok a1 a2) from (decide_eq_true h.2).symm)
    obtain ⟨⟨s1, s2⟩, s3, s4⟩ := hsh
    clear h hb0 hrr hcc hS
    cases b with
    | true =>
      go_enter Tryd.func13, Tryd.ntmps13
      go_wp2_with (first | (go_at_call 37; first | (refine (within_t _ _ _ _ (by omega)).mono ?_; rintro e w' ⟨rfl, rfl⟩) | (refine (within_f _ _ _ _ (by omega)).mono ?_; rintro e w' ⟨rfl, rfl⟩)) | (go_at_call 29; refine (tidesCode_t _ _ _ xa0 _ (shok a1 a2) _ ha0 ka0 RA.out HDE.out _ HC.out).mono ?_; rintro e2 W2 ⟨rfl, b2⟩; have t2 := b2.size) | (go_at_call 38; (refine (shifted_any _ _ _ xa0 _ _ _ se0 se1 se2 ((HSN.out.below b2).mono t2) ha0 (RA.out.below' b2) HV.out HSH.out S HSS.out true (iff_of_true rfl (HBB.out.1 (by trivial)))).mono ?_; rintro e4 W4 ⟨b4, hyes, hno⟩; have d4 : Below w.heap.size w W4 := b2.trans (b4.mono t2); (obtain ⟨B, d, he, hw⟩ := hyes rfl; have HW := Lib.hid (hw.lower t2); clear hw hyes hno; subst he))) | (go_at_call 33; refine (tideCode_nil se0 se1 se2 w.heap.size _ (HSN.out.below d4)).mono ?_; rintro e5 W5 ⟨rfl, rfl⟩))
      go_ret2
      first | exact ⟨B, ⟨d, rfl⟩, d4, HW.out⟩ | exact ⟨B, d, by simp [hSl], d4, by simpa [hSl] using HW.out⟩
    | false =>
      go_enter Tryd.func13, Tryd.ntmps13
      go_wp2_with (first | (go_at_call 37; first | (refine (within_t _ _ _ _ (by omega)).mono ?_; rintro e w' ⟨rfl, rfl⟩) | (refine (within_f _ _ _ _ (by omega)).mono ?_; rintro e w' ⟨rfl, rfl⟩)) | (go_at_call 29; refine (tidesCode_t _ _ _ xa0 _ (shok a1 a2) _ ha0 ka0 RA.out HDE.out _ HC.out).mono ?_; rintro e2 W2 ⟨rfl, b2⟩; have t2 := b2.size) | (go_at_call 38; refine (shifted_any _ _ _ xa0 _ _ _ se0 se1 se2 ((HSN.out.below b2).mono t2) ha0 (RA.out.below' b2) HV.out HSH.out S HSS.out _ HBB.out).mono ?_; rintro e4 W4 ⟨b4, hyes, hno⟩; have d4 : Below w.heap.size w W4 := b2.trans (b4.mono t2); have hn9 := hno rfl; clear hyes hno; subst hn9) | (go_at_call 33; refine (tideCode_0 se0 se1 se2 w.heap.size _ (HSN.out.below d4)).mono ?_; rintro e5 W5 ⟨rfl, rfl⟩))
      go_ret2
      first | exact ⟨none, ⟨0, rfl⟩, d4, rfl, fun h => absurd h (by simp)⟩ | exact ⟨none, 0, rfl, d4, rfl, fun h => absurd h (by simp)⟩
  · have e0 : r0_ShiftTides xa0 a1 a2 = [] := by unfold r0_ShiftTides; rw [hln, if_neg h]
    have e1 : r1_ShiftTides xa0 a1 a2 = tcode la0 xa0 (shok a1 a2) := by unfold r1_ShiftTides; rw [hln, if_neg h]
    rw [e0, e1]
    have e3 := tcode_ne h
    obtain ⟨C, hC⟩ : ∃ C, tcode la0 xa0 (shok a1 a2) = C := ⟨_, rfl⟩
    rw [hC] at e3 ⊢
    have HC := Lib.hid hC
    by_cases g1 : -100000 ≤ a1 ∧ a1 ≤ 100000
    · by_cases g2 : -4000 ≤ a2 ∧ a2 ≤ 4000
      · have HDE := Lib.hid (fun (_ : TdOk la0 xa0) => show true = decide (shok a1 a2) from (decide_eq_true ⟨g1, g2⟩).symm)
        obtain ⟨s1, s2⟩ := g1
        obtain ⟨s3, s4⟩ := g2
        clear e0 e1 h hC
        go_enter Tryd.func13, Tryd.ntmps13
        go_wp2_with (first | (go_at_call 37; first | (refine (within_t _ _ _ _ (by omega)).mono ?_; rintro e w' ⟨rfl, rfl⟩) | (refine (within_f _ _ _ _ (by omega)).mono ?_; rintro e w' ⟨rfl, rfl⟩)) | (go_at_call 29; refine (tidesCode_t _ _ _ xa0 _ (shok a1 a2) _ ha0 ka0 RA.out HDE.out _ HC.out).mono ?_; rintro e2 W2 ⟨rfl, b2⟩; have t2 := b2.size))
        go_ret2
        exact ⟨none, 0, rfl, b2, rfl, fun h => absurd h (by simp)⟩
      · have HDE := Lib.hid (fun (_ : TdOk la0 xa0) => show false = decide (shok a1 a2) from (decide_eq_false (fun e => g2 e.2)).symm)
        obtain ⟨s1, s2⟩ := g1
        clear e0 e1 h hC
        go_enter Tryd.func13, Tryd.ntmps13
        go_wp2_with (first | (go_at_call 37; first | (refine (within_t _ _ _ _ (by omega)).mono ?_; rintro e w' ⟨rfl, rfl⟩) | (refine (within_f _ _ _ _ (by omega)).mono ?_; rintro e w' ⟨rfl, rfl⟩)) | (go_at_call 29; refine (tidesCode_t _ _ _ xa0 _ (shok a1 a2) _ ha0 ka0 RA.out HDE.out _ HC.out).mono ?_; rintro e2 W2 ⟨rfl, b2⟩; have t2 := b2.size))
        go_ret2
        exact ⟨none, 0, rfl, b2, rfl, fun h => absurd h (by simp)⟩
    · have HDE := Lib.hid (fun (_ : TdOk la0 xa0) => show false = decide (shok a1 a2) from (decide_eq_false (fun e => g1 e.1)).symm)
      clear e0 e1 h hC
      go_enter Tryd.func13, Tryd.ntmps13
      go_wp2_with (first | (go_at_call 37; first | (refine (within_t _ _ _ _ (by omega)).mono ?_; rintro e w' ⟨rfl, rfl⟩) | (refine (within_f _ _ _ _ (by omega)).mono ?_; rintro e w' ⟨rfl, rfl⟩)) | (go_at_call 29; refine (tidesCode_t _ _ _ xa0 _ (shok a1 a2) _ ha0 ka0 RA.out HDE.out _ HC.out).mono ?_; rintro e2 W2 ⟨rfl, b2⟩; have t2 := b2.size))
      go_ret2
      exact ⟨none, 0, rfl, b2, rfl, fun h => absurd h (by simp)⟩

end Go.Proofs.YthpnkkbinffmkaaDoor
