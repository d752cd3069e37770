/- A net without a ditch: contracts of both sides. -/
import Derived.Test.YtlibmlbefboolaaNetC
import Derived.Test.YtlibmlbefboolaaCatDitch
import Derived.Test.YtlibmlbefboolaaPart
namespace Go.Proofs.Ytlibmlbefboolaa
open Go.RowKit

set_option maxRecDepth 100000 in
set_option maxHeartbeats 1600000 in
theorem without_spec (b : Nat) (J : Int) (A : Option Addr) (n c k : Nat) (xs : List RDitch) (w : World) (hb : b < w.heap.size) (hk : k < n) (hn : n ≤ 20) (hc : n ≤ c) (hl : NetAt w b J A n c) (ha : Rd_Ditch w w.heap.size A n xs) :
    Calls Try.prog 37 #[.pointer (some ⟨b, 0, none⟩), .int .i64 (k : Int)] w fun e w' => ∃ B d, e = .returned (.agg #[.int .i64 J, .slice B (n - 1) d]) ∧ Below w.heap.size w w' ∧ Wr_Ditch w' w.heap.size B (n - 1) (xs.take k ++ xs.drop (k + 1)) := by
  obtain ⟨g, o, rfl, hg, _⟩ := ha.at (by omega)
  obtain ⟨c0, c1⟩ := hl
  have hlen := ha.len
  have HL := Lib.hid hlen
  have T1 := Lib.hid (ha.take (show k ≤ n by omega))
  have T2 := Lib.hid (ha.cut (show k + 1 ≤ n by omega) hc)
  have N1 := Lib.hid (show 0 + k ≤ 4194304 by omega)
  have N2 := Lib.hid (show 0 + k + (n - (k + 1)) ≤ 4194304 by omega)
  have N3 := Lib.hid (show 0 + k + (n - (k + 1)) = n - 1 by omega)
  have k1 : (k : Int) + 1 ≤ (n : Int) := by omega
  have k2 : (k : Int) ≤ (n : Int) := by omega
  have k3 : (n : Int) ≤ (c : Int) := by omega
  have k4 : (n : Int) ≤ 20 := by omega
  have k5 : (k : Int) ≤ (c : Int) := by omega
  have HM : (((w.alloc (.cells #[.int .i64 0, .slice none 0 0] 30)).alloc (.cells #[] 34)).ownsRow (w.heap.size + 1) 34 3 (.slice (some ⟨w.heap.size + 1, 0, none⟩) 0 0) 0 []) := by
    have := World.ownsRow_made (base := w.heap.size + 1) (e := 34) (size := 3) (w.alloc (.cells #[.int .i64 0, .slice none 0 0] 30)) #[] 0 (by simp) (by simp [maxLen]) rfl
    simpa using this
  have HO := Lib.hid HM
  have HB : Below w.heap.size w ((w.alloc (.cells #[.int .i64 0, .slice none 0 0] 30)).alloc (.cells #[] 34)) := ((Below.refl _ _).alloc (Nat.le_refl _) _).alloc (by simp) _
  have HR := Lib.hid (T1.out.below HB)
  have HZ := Lib.hid (show w.heap.size + 1 ≤ ((w.alloc (.cells #[.int .i64 0, .slice none 0 0] 30)).alloc (.cells #[] 34)).heap.size by simp)
  clear hlen HM
  go_enter Try.func37, Try.ntmps37
  go_wp2_with (at_builtin; refine wplAppDitch rfl (.tmp 6) (.tmp 12) rfl _ (w.heap.size + 1) 0 k c w.heap.size (some ⟨g, o, none⟩) _ [] (xs.take k) rfl HO.out rfl HR.out N1.out HZ.out ?_; intro v1 w1 hown1 hb1 hz1)
  have HV := Lib.hid hown1
  have d1 : Below w.heap.size w w1 := HB.trans (hb1.mono (by omega))
  have s1 : w.heap.size + 1 < w1.heap.size := by simp at hz1; omega
  have z0 : w1.cell? ⟨w.heap.size, 0, none⟩ = some (.int .i64 0) := (hb1.cell (p := ⟨w.heap.size, 0, none⟩) (by simp)).trans (by simp)
  have z1 : w1.cell? ⟨w.heap.size, 1, none⟩ = some (.slice none 0 0) := (hb1.cell (p := ⟨w.heap.size, 1, none⟩) (by simp)).trans (by simp)
  have f0 : w1.frozen? ⟨w.heap.size, 0, none⟩ = false := (hb1.frozen (p := ⟨w.heap.size, 0, none⟩) (by simp)).trans (by simp)
  have f1 : w1.frozen? ⟨w.heap.size, 1, none⟩ = false := (hb1.frozen (p := ⟨w.heap.size, 1, none⟩) (by simp)).trans (by simp)
  have p0 := (d1.cell (p := ⟨b, 0, none⟩) hb).trans c0
  have p1 := (d1.cell (p := ⟨b, 1, none⟩) hb).trans c1
  have HR2 := Lib.hid (T2.out.below d1)
  have HZ2 := Lib.hid (show w.heap.size + 1 ≤ w1.heap.size by omega)
  clear hown1 hz1 c0 c1
  have wr1 := IntWalk.i64_in ((k : Int) + 1) (by omega)
  have wr0 : (0 : Int) ≤ (k : Int) + 1 := by omega
  have wr2 : ((k : Int) + 1).toNat = k + 1 := by omega
  go_wp2
  refine wp_region_held_drew (S := fun w' => w'.cell? ⟨b, 0, none⟩ = some (.int .i64 J) ∧ w'.cell? ⟨b, 1, none⟩ = some (.slice (some ⟨g, o, none⟩) n c)) (by kernel_rfl) ⟨p0, p1⟩ (fun hHeld => ?_)
  ((refine wpAnyH_take (i := 0) (oi := ⟨some 14, _, _, _, _, _⟩) (v := ?_) rfl (by kernel_rfl) (by kernel_rfl) (by kernel_rfl) (fun _ _ _ h => h) (Or.inl ⟨by rfl, ?_⟩) (by assumption) ?_; rotate_left 1; (focus (intro w hSw; (try dsimp only at hSw); go_simp <;> try (first | (with_reducible rfl) | (rw [if_neg (by omega)])))); try simp only [Act.put, List.setIfInBounds_toArray, List.set_cons_zero, List.set_cons_succ]); (refine wpAnyH_take (i := 1) (oi := ⟨some 15, _, _, _, _, _⟩) (v := ?_) rfl (by kernel_rfl) (by kernel_rfl) (by kernel_rfl) (fun _ _ _ h => h) (Or.inl ⟨by rfl, ?_⟩) (by assumption) ?_; rotate_left 1; (focus (intro w hSw; (try dsimp only at hSw); go_simp <;> try (first | (with_reducible rfl) | (rw [if_neg (by omega)])))); try simp only [Act.put, List.setIfInBounds_toArray, List.set_cons_zero, List.set_cons_succ]); (refine wpAnyH_take (i := 2) (oi := ⟨some 16, _, _, _, _, _⟩) (v := ?_) rfl (by kernel_rfl) (by kernel_rfl) (by kernel_rfl) (fun _ _ _ h => h) (Or.inl ⟨by rfl, ?_⟩) (by assumption) ?_; rotate_left 1; (focus (intro w hSw; (try dsimp only at hSw); go_simp <;> try (first | (with_reducible rfl) | (rw [if_neg (by omega)])))); try simp only [Act.put, List.setIfInBounds_toArray, List.set_cons_zero, List.set_cons_succ]); (refine wpAnyH_take (i := 3) (oi := ⟨some 17, _, _, _, _, _⟩) (v := ?_) rfl (by kernel_rfl) (by kernel_rfl) (by kernel_rfl) (fun _ _ _ h => h) (Or.inl ⟨by rfl, ?_⟩) (by assumption) ?_; rotate_left 1; (focus (intro w hSw; (try dsimp only at hSw); go_simp <;> try (first | (with_reducible rfl) | (rw [if_neg (by omega)])))); try simp only [Act.put, List.setIfInBounds_toArray, List.set_cons_zero, List.set_cons_succ]); (refine wpAnyH_take (i := 4) (oi := ⟨some 18, _, _, _, _, _⟩) (v := ?_) rfl (by kernel_rfl) (by kernel_rfl) (by kernel_rfl) (fun _ _ _ h => h) (Or.inl ⟨by rfl, ?_⟩) (by assumption) ?_; rotate_left 1; (focus (intro w hSw; (try dsimp only at hSw); go_simp <;> try (first | (with_reducible rfl) | (rw [if_neg (by omega)])))); try simp only [Act.put, List.setIfInBounds_toArray, List.set_cons_zero, List.set_cons_succ]); (refine wpAnyH_take (i := 5) (oi := ⟨some 19, _, _, _, _, _⟩) (v := ?_) rfl (by kernel_rfl) (by kernel_rfl) (by kernel_rfl) (fun _ _ _ h => h) (Or.inl ⟨by rfl, ?_⟩) (by assumption) ?_; rotate_left 1; (focus (intro w hSw; (try dsimp only at hSw); go_simp <;> try (first | (with_reducible rfl) | (rw [if_neg (by omega)])))); try simp only [Act.put, List.setIfInBounds_toArray, List.set_cons_zero, List.set_cons_succ]); (refine wpAnyH_take (i := 6) (oi := ⟨some 20, _, _, _, _, _⟩) (v := ?_) rfl (by kernel_rfl) (by kernel_rfl) (by kernel_rfl) (fun _ _ _ h => h) (Or.inl ⟨by rfl, ?_⟩) (by assumption) ?_; rotate_left 1; (focus (intro w hSw; (try dsimp only at hSw); go_simp <;> try (first | (with_reducible rfl) | (rw [if_neg (by omega)])))); try simp only [Act.put, List.setIfInBounds_toArray, List.set_cons_zero, List.set_cons_succ]); (refine wpAnyH_take (i := 7) (oi := ⟨some 21, _, _, _, _, _⟩) (v := ?_) rfl (by kernel_rfl) (by kernel_rfl) (by kernel_rfl) (fun _ _ _ h => h) (Or.inl ⟨by rfl, ?_⟩) (by assumption) ?_; rotate_left 1; (focus (intro w hSw; (try dsimp only at hSw); go_simp <;> try (first | (with_reducible rfl) | (rw [if_neg (by omega)])))); try simp only [Act.put, List.setIfInBounds_toArray, List.set_cons_zero, List.set_cons_succ]); (refine wpAnyH_take (i := 8) (oi := ⟨some 22, _, _, _, _, _⟩) (v := ?_) rfl (by kernel_rfl) (by kernel_rfl) (by kernel_rfl) (fun _ _ _ h => h) (Or.inl ⟨by rfl, ?_⟩) (by assumption) ?_; rotate_left 1; (focus (intro w hSw; (try dsimp only at hSw); go_simp <;> try (first | (with_reducible rfl) | (rw [if_neg (by omega)])))); try simp only [Act.put, List.setIfInBounds_toArray, List.set_cons_zero, List.set_cons_succ]); (refine wpAnyH_take (i := 9) (oi := ⟨some 23, _, _, _, _, _⟩) (v := ?_) rfl (by kernel_rfl) (by kernel_rfl) (by kernel_rfl) (fun _ _ _ h => h) (Or.inl ⟨by rfl, ?_⟩) (by assumption) ?_; rotate_left 1; (focus (intro w hSw; (try dsimp only at hSw); go_simp <;> try (first | (with_reducible rfl) | (rw [if_neg (by omega)])))); try simp only [Act.put, List.setIfInBounds_toArray, List.set_cons_zero, List.set_cons_succ]); (refine wpAnyH_take (i := 10) (oi := ⟨some 24, _, _, _, _, _⟩) (v := ?_) rfl (by kernel_rfl) (by kernel_rfl) (by kernel_rfl) (fun _ _ _ h => h) (Or.inl ⟨by rfl, ?_⟩) (by assumption) ?_; rotate_left 1; (focus (intro w hSw; (try dsimp only at hSw); go_simp <;> try (first | (with_reducible rfl) | (rw [if_neg (by omega)])))); try simp only [Act.put, List.setIfInBounds_toArray, List.set_cons_zero, List.set_cons_succ]); (refine wpAnyH_take (i := 11) (oi := ⟨some 25, _, _, _, _, _⟩) (v := ?_) rfl (by kernel_rfl) (by kernel_rfl) (by kernel_rfl) (fun _ _ _ h => h) (Or.inl ⟨by rfl, ?_⟩) (by assumption) ?_; rotate_left 1; (focus (intro w hSw; (try dsimp only at hSw); go_simp <;> try (first | (with_reducible rfl) | (rw [if_neg (by omega)])))); try simp only [Act.put, List.setIfInBounds_toArray, List.set_cons_zero, List.set_cons_succ]))
  refine wpAnyH_ready (rs := [12]) (by kernel_rfl) (by simp) ?_
  refine AllReadyH.cons (o := ⟨some 26, _, _, _, _, _⟩) rfl (fun K hK => ?_) AllReadyH.nil
  rw [if_pos (by rfl)]
  have HV2 : Hid (w1.drew.ownsRow (w.heap.size + 1) 34 3 v1 (0 + k) ([] ++ csDitch (xs.take k))) := HV
  have HR3 : Hid (Rd_Ditch w1.drew w.heap.size (if c = k + 1 then some ⟨g, o, none⟩ else some ⟨g, o + (k + 1) * 3, none⟩) (n - (k + 1)) (xs.drop (k + 1))) := HR2
  have HZ3 : Hid (w.heap.size + 1 ≤ w1.drew.heap.size) := HZ2
  have d2 : Below w.heap.size w w1.drew := d1.drew
  have z0' : w1.drew.cell? ⟨w.heap.size, 0, none⟩ = some (.int .i64 0) := z0
  have z1' : w1.drew.cell? ⟨w.heap.size, 1, none⟩ = some (.slice none 0 0) := z1
  have f0' : w1.drew.frozen? ⟨w.heap.size, 0, none⟩ = false := f0
  have f1' : w1.drew.frozen? ⟨w.heap.size, 1, none⟩ = false := f1
  have p0' : w1.drew.cell? ⟨b, 0, none⟩ = some (.int .i64 J) := p0
  have p1' : w1.drew.cell? ⟨b, 1, none⟩ = some (.slice (some ⟨g, o, none⟩) n c) := p1
  generalize w1.drew = w2 at HV2 HR3 HZ3 d2 z0' z1' f0' f1' p0' p1' ⊢
  clear hHeld
  refine wpAppDitch (.tmp 18) (.tmp 25) rfl w2 (w.heap.size + 1) (0 + k) (n - (k + 1)) (c - (k + 1)) w.heap.size (if c = k + 1 then some ⟨g, o, none⟩ else some ⟨g, o + (k + 1) * 3, none⟩) v1 _ (xs.drop (k + 1)) rfl HV2.out rfl HR3.out N2.out HZ3.out ?_
  intro v2 w3 hown2 hb3 hz3
  have hown3 : w3.ownsRow (w.heap.size + 1) 34 3 v2 (n - 1) (csDitch (xs.take k ++ xs.drop (k + 1))) := by
    rw [csDitch_app, ← N3.out]
    rw [List.nil_append] at hown2
    exact hown2
  obtain ⟨B, dB, rfl, hwr⟩ := own_wrDitch hown3
  have d3 : Below w.heap.size w w3 := d2.trans (hb3.mono (by omega))
  have s3 : w.heap.size + 1 ≤ w3.heap.size := by have := HZ3.out; omega
  have zz0 := (hb3.cell (p := ⟨w.heap.size, 0, none⟩) (by simp)).trans z0'
  have zz1 := (hb3.cell (p := ⟨w.heap.size, 1, none⟩) (by simp)).trans z1'
  have ff0 := (hb3.frozen (p := ⟨w.heap.size, 0, none⟩) (by simp)).trans f0'
  have ff1 := (hb3.frozen (p := ⟨w.heap.size, 1, none⟩) (by simp)).trans f1'
  have pp0 := (hb3.cell (p := ⟨b, 0, none⟩) (show b < w.heap.size + 1 by omega)).trans p0'
  have pp1 := (hb3.cell (p := ⟨b, 1, none⟩) (show b < w.heap.size + 1 by omega)).trans p1'
  clear hown2 hown3
  refine hK.out _ _ ⟨pp0, pp1⟩ (fun hHeld => ?_)
  try simp only [Act.put, List.setIfInBounds_toArray, List.set_cons_zero, List.set_cons_succ]
  clear hK K
  ((refine wpAnyH_take (i := 13) (oi := ⟨some 27, _, _, _, _, _⟩) (v := ?_) rfl (by kernel_rfl) (by kernel_rfl) (by kernel_rfl) (fun _ _ _ h => h) (Or.inl ⟨by rfl, ?_⟩) (by assumption) ?_; rotate_left 1; (focus (intro w hSw; (try dsimp only at hSw); go_simp <;> try (first | (with_reducible rfl) | (rw [if_neg (by omega)])))); try simp only [Act.put, List.setIfInBounds_toArray, List.set_cons_zero, List.set_cons_succ]))
  refine wpAnyH_ready (rs := [14]) (by kernel_rfl) (by simp) ?_
  refine AllReadyH.cons (o := ⟨none, _, _, _, _, _⟩) rfl (fun K hK => ?_) AllReadyH.nil
  go_simp
  have t0 : ((w3.setCell ⟨w.heap.size, 0, none⟩ (.int .i64 J)).setCell ⟨w.heap.size, 1, none⟩ (.slice B (n - 1) dB)).cell? ⟨w.heap.size, 0, none⟩ = some (.int .i64 J) := (World.cell?_setCell_other _ _ _ _ (by simp)).trans (World.cell?_setCell_same _ _ _ zz0)
  have t1 : ((w3.setCell ⟨w.heap.size, 0, none⟩ (.int .i64 J)).setCell ⟨w.heap.size, 1, none⟩ (.slice B (n - 1) dB)).cell? ⟨w.heap.size, 1, none⟩ = some (.slice B (n - 1) dB) := World.cell?_setCell_same _ _ _ ((World.cell?_setCell_other _ _ _ _ (by simp)).trans zz1)
  have hold : ∀ b o, b < w.heap.size → ((w3.setCell ⟨w.heap.size, 0, none⟩ (.int .i64 J)).setCell ⟨w.heap.size, 1, none⟩ (.slice B (n - 1) dB)).cell? ⟨b, o, none⟩ = w3.cell? ⟨b, o, none⟩ := fun b o hb => (World.cell?_setCell_other _ _ _ _ (fun e => by injection e; omega)).trans (World.cell?_setCell_other _ _ _ _ (fun e => by injection e; omega))
  have hbl : Below w.heap.size w ((w3.setCell ⟨w.heap.size, 0, none⟩ (.int .i64 J)).setCell ⟨w.heap.size, 1, none⟩ (.slice B (n - 1) dB)) := (d3.setCell (Nat.le_refl _) _).setCell (Nat.le_refl _) _
  have hw6 : Wr_Ditch ((w3.setCell ⟨w.heap.size, 0, none⟩ (.int .i64 J)).setCell ⟨w.heap.size, 1, none⟩ (.slice B (n - 1) dB)) w.heap.size B (n - 1) (xs.take k ++ xs.drop (k + 1)) := (hwr.abv (by repeat (first | exact Abv.refl _ _ | (refine Abv.setCell ?_ (by first | omega | (simp; done) | (simp; omega)) _) | apply Abv.drewN | apply Abv.drew | (refine Abv.alloc ?_ _)))).lower (by omega)
  generalize (w3.setCell ⟨w.heap.size, 0, none⟩ (.int .i64 J)).setCell ⟨w.heap.size, 1, none⟩ (.slice B (n - 1) dB) = w6 at t0 t1 hold hbl hw6 ⊢
  clear hHeld
  refine hK.out _ _ ⟨(hold _ _ hb).trans pp0, (hold _ _ hb).trans pp1⟩ (fun hHeld => ?_)
  clear hK K hold
  refine wpAnyH_done (by kernel_rfl) ?_ _
  go_wp2
  all_goals exact bodyPost_ret (v := .agg #[.int .i64 J, .slice B (n - 1) dB]) (by simp [results, Try.results37, go_sem, t0, t1]) rfl ⟨B, ⟨dB, rfl⟩, hbl, hw6⟩

set_option maxRecDepth 100000 in
set_option maxHeartbeats 1600000 in
theorem without_impl (J : Int) (A : Option Addr) (n c k : Nat) (xs : List RDitch) (w : World) (hk : k < n) (hn : n ≤ 20) (hc : n ≤ c) (ha : Rd_Ditch w w.heap.size A n xs) :
    Calls Try.prog 39 #[.agg #[.int .i64 J, .slice A n c], .int .i64 (k : Int)] w fun e w' => ∃ B d, e = .returned (.agg #[.int .i64 J, .slice B (n - 1) d]) ∧ Below w.heap.size w w' ∧ Wr_Ditch w' w.heap.size B (n - 1) (xs.take k ++ xs.drop (k + 1)) := by
  obtain ⟨g, o, rfl, hg, _⟩ := ha.at (by omega)
  have hlen := ha.len
  have HL := Lib.hid hlen
  have T1 := Lib.hid (ha.take (show k ≤ n by omega))
  have T2 := Lib.hid (ha.cut (show k + 1 ≤ n by omega) hc)
  have N1 := Lib.hid (show k ≤ 1048576 by omega)
  have N2 := Lib.hid (show n - (k + 1) ≤ 1048576 by omega)
  have N3 := Lib.hid (show k + (n - (k + 1)) = n - 1 by omega)
  have k1 : (k : Int) + 1 ≤ (n : Int) := by omega
  have k2 : (k : Int) ≤ (n : Int) := by omega
  have k3 : (n : Int) ≤ (c : Int) := by omega
  have k4 : (n : Int) ≤ 20 := by omega
  have k5 : (k : Int) ≤ (c : Int) := by omega
  have wr1 := IntWalk.i64_in ((k : Int) + 1) (by omega)
  have wr0 : (0 : Int) ≤ (k : Int) + 1 := by omega
  have wr2 : ((k : Int) + 1).toNat = k + 1 := by omega
  clear hlen ha
  by_cases ec : c = k + 1
  · subst ec
    obtain rfl : n = k + 1 := by omega
    have T2 := Lib.hid (show Rd_Ditch w w.heap.size (some ⟨g, o, none⟩) 0 (xs.drop (k + 1)) by have := T2.out; rw [if_pos rfl, Nat.sub_self] at this; exact this)
    have d1 : Below w.heap.size w (((w.alloc (.cells #[.int .i64 J, .slice (some ⟨g, o, none⟩) (k + 1) (k + 1)] 30)).alloc (.cells #[.int .i64 0, .slice none 0 0] 30)).alloc (.cells #[.slice (some ⟨g, o, none⟩) k (k + 1), .slice (some ⟨g, o, none⟩) (0) (0)] 28)).drew := ((((Below.refl _ _).alloc (Nat.le_refl _) _).alloc (by simp) _).alloc (by simp; omega) _).drew
    have hz : (((w.alloc (.cells #[.int .i64 J, .slice (some ⟨g, o, none⟩) (k + 1) (k + 1)] 30)).alloc (.cells #[.int .i64 0, .slice none 0 0] 30)).alloc (.cells #[.slice (some ⟨g, o, none⟩) k (k + 1), .slice (some ⟨g, o, none⟩) (0) (0)] 28)).drew.heap.size = w.heap.size + 1 + 1 + 1 := by show ((((w.alloc (.cells #[.int .i64 J, .slice (some ⟨g, o, none⟩) (k + 1) (k + 1)] 30)).alloc (.cells #[.int .i64 0, .slice none 0 0] 30)).alloc (.cells #[.slice (some ⟨g, o, none⟩) k (k + 1), .slice (some ⟨g, o, none⟩) (0) (0)] 28))).heap.size = _; simp
    have y0 : (((w.alloc (.cells #[.int .i64 J, .slice (some ⟨g, o, none⟩) (k + 1) (k + 1)] 30)).alloc (.cells #[.int .i64 0, .slice none 0 0] 30)).alloc (.cells #[.slice (some ⟨g, o, none⟩) k (k + 1), .slice (some ⟨g, o, none⟩) (0) (0)] 28)).drew.cell? ⟨w.heap.size, 0, none⟩ = some (.int .i64 J) := by go_simp
    have yf0 : (((w.alloc (.cells #[.int .i64 J, .slice (some ⟨g, o, none⟩) (k + 1) (k + 1)] 30)).alloc (.cells #[.int .i64 0, .slice none 0 0] 30)).alloc (.cells #[.slice (some ⟨g, o, none⟩) k (k + 1), .slice (some ⟨g, o, none⟩) (0) (0)] 28)).drew.frozen? ⟨w.heap.size, 0, none⟩ = false := by go_simp
    have y1 : (((w.alloc (.cells #[.int .i64 J, .slice (some ⟨g, o, none⟩) (k + 1) (k + 1)] 30)).alloc (.cells #[.int .i64 0, .slice none 0 0] 30)).alloc (.cells #[.slice (some ⟨g, o, none⟩) k (k + 1), .slice (some ⟨g, o, none⟩) (0) (0)] 28)).drew.cell? ⟨w.heap.size, 1, none⟩ = some (.slice (some ⟨g, o, none⟩) (k + 1) (k + 1)) := by go_simp
    have yf1 : (((w.alloc (.cells #[.int .i64 J, .slice (some ⟨g, o, none⟩) (k + 1) (k + 1)] 30)).alloc (.cells #[.int .i64 0, .slice none 0 0] 30)).alloc (.cells #[.slice (some ⟨g, o, none⟩) k (k + 1), .slice (some ⟨g, o, none⟩) (0) (0)] 28)).drew.frozen? ⟨w.heap.size, 1, none⟩ = false := by go_simp
    have z0 : (((w.alloc (.cells #[.int .i64 J, .slice (some ⟨g, o, none⟩) (k + 1) (k + 1)] 30)).alloc (.cells #[.int .i64 0, .slice none 0 0] 30)).alloc (.cells #[.slice (some ⟨g, o, none⟩) k (k + 1), .slice (some ⟨g, o, none⟩) (0) (0)] 28)).drew.cell? ⟨w.heap.size + 1, 0, none⟩ = some (.int .i64 0) := by go_simp
    have zf0 : (((w.alloc (.cells #[.int .i64 J, .slice (some ⟨g, o, none⟩) (k + 1) (k + 1)] 30)).alloc (.cells #[.int .i64 0, .slice none 0 0] 30)).alloc (.cells #[.slice (some ⟨g, o, none⟩) k (k + 1), .slice (some ⟨g, o, none⟩) (0) (0)] 28)).drew.frozen? ⟨w.heap.size + 1, 0, none⟩ = false := by go_simp
    have z1 : (((w.alloc (.cells #[.int .i64 J, .slice (some ⟨g, o, none⟩) (k + 1) (k + 1)] 30)).alloc (.cells #[.int .i64 0, .slice none 0 0] 30)).alloc (.cells #[.slice (some ⟨g, o, none⟩) k (k + 1), .slice (some ⟨g, o, none⟩) (0) (0)] 28)).drew.cell? ⟨w.heap.size + 1, 1, none⟩ = some (.slice none 0 0) := by go_simp
    have zf1 : (((w.alloc (.cells #[.int .i64 J, .slice (some ⟨g, o, none⟩) (k + 1) (k + 1)] 30)).alloc (.cells #[.int .i64 0, .slice none 0 0] 30)).alloc (.cells #[.slice (some ⟨g, o, none⟩) k (k + 1), .slice (some ⟨g, o, none⟩) (0) (0)] 28)).drew.frozen? ⟨w.heap.size + 1, 1, none⟩ = false := by go_simp
    have x0 : (((w.alloc (.cells #[.int .i64 J, .slice (some ⟨g, o, none⟩) (k + 1) (k + 1)] 30)).alloc (.cells #[.int .i64 0, .slice none 0 0] 30)).alloc (.cells #[.slice (some ⟨g, o, none⟩) k (k + 1), .slice (some ⟨g, o, none⟩) (0) (0)] 28)).drew.cell? ⟨w.heap.size + 1 + 1, 0, none⟩ = some (.slice (some ⟨g, o, none⟩) k (k + 1)) := by go_simp
    have x1 : (((w.alloc (.cells #[.int .i64 J, .slice (some ⟨g, o, none⟩) (k + 1) (k + 1)] 30)).alloc (.cells #[.int .i64 0, .slice none 0 0] 30)).alloc (.cells #[.slice (some ⟨g, o, none⟩) k (k + 1), .slice (some ⟨g, o, none⟩) (0) (0)] 28)).drew.cell? ⟨w.heap.size + 1 + 1, 1, none⟩ = some (.slice (some ⟨g, o, none⟩) (0) (0)) := by go_simp
    have R1 : Rd_Ditch (((w.alloc (.cells #[.int .i64 J, .slice (some ⟨g, o, none⟩) (k + 1) (k + 1)] 30)).alloc (.cells #[.int .i64 0, .slice none 0 0] 30)).alloc (.cells #[.slice (some ⟨g, o, none⟩) k (k + 1), .slice (some ⟨g, o, none⟩) (0) (0)] 28)).drew (((w.alloc (.cells #[.int .i64 J, .slice (some ⟨g, o, none⟩) (k + 1) (k + 1)] 30)).alloc (.cells #[.int .i64 0, .slice none 0 0] 30)).alloc (.cells #[.slice (some ⟨g, o, none⟩) k (k + 1), .slice (some ⟨g, o, none⟩) (0) (0)] 28)).drew.heap.size (some ⟨g, o, none⟩) k (xs.take k) := (T1.out.below d1).mono (by omega)
    have R2 : Rd_Ditch (((w.alloc (.cells #[.int .i64 J, .slice (some ⟨g, o, none⟩) (k + 1) (k + 1)] 30)).alloc (.cells #[.int .i64 0, .slice none 0 0] 30)).alloc (.cells #[.slice (some ⟨g, o, none⟩) k (k + 1), .slice (some ⟨g, o, none⟩) (0) (0)] 28)).drew (((w.alloc (.cells #[.int .i64 J, .slice (some ⟨g, o, none⟩) (k + 1) (k + 1)] 30)).alloc (.cells #[.int .i64 0, .slice none 0 0] 30)).alloc (.cells #[.slice (some ⟨g, o, none⟩) k (k + 1), .slice (some ⟨g, o, none⟩) (0) (0)] 28)).drew.heap.size (some ⟨g, o, none⟩) (0) (xs.drop (k + 1)) := (T2.out.below d1).mono (by omega)
    have HZ := Lib.hid (show w.heap.size + 1 + 1 < (((w.alloc (.cells #[.int .i64 J, .slice (some ⟨g, o, none⟩) (k + 1) (k + 1)] 30)).alloc (.cells #[.int .i64 0, .slice none 0 0] 30)).alloc (.cells #[.slice (some ⟨g, o, none⟩) k (k + 1), .slice (some ⟨g, o, none⟩) (0) (0)] 28)).drew.heap.size by rw [hz]; omega)
    have SZ := Lib.hid hz
    have D1 := Lib.hid d1
    have RR1 := Lib.hid R1
    have RR2 := Lib.hid R2
    have M2 := Lib.hid (show 0 ≤ 1048576 by omega)
    have Y0 := Lib.hid y0
    have YF0 := Lib.hid yf0
    have Y1 := Lib.hid y1
    have YF1 := Lib.hid yf1
    have Z0 := Lib.hid z0
    have ZF0 := Lib.hid zf0
    have Z1 := Lib.hid z1
    have ZF1 := Lib.hid zf1
    have X0 := Lib.hid x0
    have X1 := Lib.hid x1
    clear d1 hz y0 y1 yf0 yf1 z0 z1 zf0 zf1 x0 x1 R1 R2
    go_enter Try.func39, Try.ntmps39
    go_wp2_with fail
    go_region_with (go_at_call 32; refine (concatDitch_t (w.heap.size + 1 + 1) (some ⟨g, o, none⟩) (some ⟨g, o, none⟩) k (0) (k + 1) (0) (xs.take k) (xs.drop (k + 1)) ((((w.alloc (.cells #[.int .i64 J, .slice (some ⟨g, o, none⟩) (k + 1) (k + 1)] 30)).alloc (.cells #[.int .i64 0, .slice none 0 0] 30)).alloc (.cells #[.slice (some ⟨g, o, none⟩) k (k + 1), .slice (some ⟨g, o, none⟩) (0) (0)] 28)).drew) HZ.out X0.out X1.out N1.out M2.out RR1.out RR2.out).mono ?_; rintro e1 W1 ⟨B, dB, rfl, b1, hwr⟩; clear X0 X1 RR1 RR2; (have s1 : w.heap.size + 2 < W1.heap.size := (by have := b1.size; have := SZ.out; omega)); (have d2 : Below w.heap.size w W1 := D1.out.trans (b1.mono (by have := SZ.out; omega))); (have y0' := (b1.cell (p := ⟨w.heap.size, 0, none⟩) (show w.heap.size < (((w.alloc (.cells #[.int .i64 J, .slice (some ⟨g, o, none⟩) (k + 1) (k + 1)] 30)).alloc (.cells #[.int .i64 0, .slice none 0 0] 30)).alloc (.cells #[.slice (some ⟨g, o, none⟩) k (k + 1), .slice (some ⟨g, o, none⟩) (0) (0)] 28)).drew.heap.size by have := SZ.out; omega)).trans Y0.out); (have yf0' := (b1.frozen (p := ⟨w.heap.size, 0, none⟩) (show w.heap.size < (((w.alloc (.cells #[.int .i64 J, .slice (some ⟨g, o, none⟩) (k + 1) (k + 1)] 30)).alloc (.cells #[.int .i64 0, .slice none 0 0] 30)).alloc (.cells #[.slice (some ⟨g, o, none⟩) k (k + 1), .slice (some ⟨g, o, none⟩) (0) (0)] 28)).drew.heap.size by have := SZ.out; omega)).trans YF0.out); (have y1' := (b1.cell (p := ⟨w.heap.size, 1, none⟩) (show w.heap.size < (((w.alloc (.cells #[.int .i64 J, .slice (some ⟨g, o, none⟩) (k + 1) (k + 1)] 30)).alloc (.cells #[.int .i64 0, .slice none 0 0] 30)).alloc (.cells #[.slice (some ⟨g, o, none⟩) k (k + 1), .slice (some ⟨g, o, none⟩) (0) (0)] 28)).drew.heap.size by have := SZ.out; omega)).trans Y1.out); (have yf1' := (b1.frozen (p := ⟨w.heap.size, 1, none⟩) (show w.heap.size < (((w.alloc (.cells #[.int .i64 J, .slice (some ⟨g, o, none⟩) (k + 1) (k + 1)] 30)).alloc (.cells #[.int .i64 0, .slice none 0 0] 30)).alloc (.cells #[.slice (some ⟨g, o, none⟩) k (k + 1), .slice (some ⟨g, o, none⟩) (0) (0)] 28)).drew.heap.size by have := SZ.out; omega)).trans YF1.out); (have z0' := (b1.cell (p := ⟨w.heap.size + 1, 0, none⟩) (show w.heap.size + 1 < (((w.alloc (.cells #[.int .i64 J, .slice (some ⟨g, o, none⟩) (k + 1) (k + 1)] 30)).alloc (.cells #[.int .i64 0, .slice none 0 0] 30)).alloc (.cells #[.slice (some ⟨g, o, none⟩) k (k + 1), .slice (some ⟨g, o, none⟩) (0) (0)] 28)).drew.heap.size by have := SZ.out; omega)).trans Z0.out); (have zf0' := (b1.frozen (p := ⟨w.heap.size + 1, 0, none⟩) (show w.heap.size + 1 < (((w.alloc (.cells #[.int .i64 J, .slice (some ⟨g, o, none⟩) (k + 1) (k + 1)] 30)).alloc (.cells #[.int .i64 0, .slice none 0 0] 30)).alloc (.cells #[.slice (some ⟨g, o, none⟩) k (k + 1), .slice (some ⟨g, o, none⟩) (0) (0)] 28)).drew.heap.size by have := SZ.out; omega)).trans ZF0.out); (have z1' := (b1.cell (p := ⟨w.heap.size + 1, 1, none⟩) (show w.heap.size + 1 < (((w.alloc (.cells #[.int .i64 J, .slice (some ⟨g, o, none⟩) (k + 1) (k + 1)] 30)).alloc (.cells #[.int .i64 0, .slice none 0 0] 30)).alloc (.cells #[.slice (some ⟨g, o, none⟩) k (k + 1), .slice (some ⟨g, o, none⟩) (0) (0)] 28)).drew.heap.size by have := SZ.out; omega)).trans Z1.out); (have zf1' := (b1.frozen (p := ⟨w.heap.size + 1, 1, none⟩) (show w.heap.size + 1 < (((w.alloc (.cells #[.int .i64 J, .slice (some ⟨g, o, none⟩) (k + 1) (k + 1)] 30)).alloc (.cells #[.int .i64 0, .slice none 0 0] 30)).alloc (.cells #[.slice (some ⟨g, o, none⟩) k (k + 1), .slice (some ⟨g, o, none⟩) (0) (0)] 28)).drew.heap.size by have := SZ.out; omega)).trans ZF1.out))
    go_wp2
    all_goals (
      have t0 : (((W1.setCell ⟨w.heap.size, 1, none⟩ (.slice B (k) dB)).setCell ⟨w.heap.size + 1, 0, none⟩ (.int .i64 J)).setCell ⟨w.heap.size + 1, 1, none⟩ (.slice B (k) dB)).cell? ⟨w.heap.size + 1, 0, none⟩ = some (.int .i64 J) := (World.cell?_setCell_other _ _ _ _ (by simp)).trans (World.cell?_setCell_same _ _ _ ((World.cell?_setCell_other _ _ _ _ (by simp)).trans z0'))
      have t1 : (((W1.setCell ⟨w.heap.size, 1, none⟩ (.slice B (k) dB)).setCell ⟨w.heap.size + 1, 0, none⟩ (.int .i64 J)).setCell ⟨w.heap.size + 1, 1, none⟩ (.slice B (k) dB)).cell? ⟨w.heap.size + 1, 1, none⟩ = some (.slice B (k) dB) := World.cell?_setCell_same _ _ _ ((World.cell?_setCell_other _ _ _ _ (by simp)).trans ((World.cell?_setCell_other _ _ _ _ (by simp)).trans z1'))
      have hbl : Below w.heap.size w (((W1.setCell ⟨w.heap.size, 1, none⟩ (.slice B (k) dB)).setCell ⟨w.heap.size + 1, 0, none⟩ (.int .i64 J)).setCell ⟨w.heap.size + 1, 1, none⟩ (.slice B (k) dB)) := ((d2.setCell (Nat.le_refl _) _).setCell (by simp) _).setCell (by simp) _
      have hw0 : Wr_Ditch W1 (w.heap.size + 2) B (k) (xs.take k ++ xs.drop (k + 1)) := hwr.lower (by have := SZ.out; omega)
      have hw6 : Wr_Ditch (((W1.setCell ⟨w.heap.size, 1, none⟩ (.slice B (k) dB)).setCell ⟨w.heap.size + 1, 0, none⟩ (.int .i64 J)).setCell ⟨w.heap.size + 1, 1, none⟩ (.slice B (k) dB)) w.heap.size B (k + 1 - 1) (xs.take k ++ xs.drop (k + 1)) := by
        rw [show k + 1 - 1 = k from rfl]
        exact (hw0.abv (((Abv.refl _ _).setCell (by simp) _).setCell (by simp) _ |>.setCell (by simp) _)).lower (by omega)
      exact bodyPost_ret (v := .agg #[.int .i64 J, .slice B (k) dB]) (by simp [results, Try.results39, go_sem, t0, t1]) rfl ⟨B, dB, by rw [show k + 1 - 1 = k from rfl], hbl, hw6⟩
    )
  · have T2 := Lib.hid (show Rd_Ditch w w.heap.size (some ⟨g, o + (k + 1) * 3, none⟩) (n - (k + 1)) (xs.drop (k + 1)) by have := T2.out; rw [if_neg ec] at this; exact this)
    have d1 : Below w.heap.size w (((w.alloc (.cells #[.int .i64 J, .slice (some ⟨g, o, none⟩) (n) (c)] 30)).alloc (.cells #[.int .i64 0, .slice none 0 0] 30)).alloc (.cells #[.slice (some ⟨g, o, none⟩) k (c), .slice (some ⟨g, o + (k + 1) * 3, none⟩) (n - (k + 1)) (c - (k + 1))] 28)).drew := ((((Below.refl _ _).alloc (Nat.le_refl _) _).alloc (by simp) _).alloc (by simp; omega) _).drew
    have hz : (((w.alloc (.cells #[.int .i64 J, .slice (some ⟨g, o, none⟩) (n) (c)] 30)).alloc (.cells #[.int .i64 0, .slice none 0 0] 30)).alloc (.cells #[.slice (some ⟨g, o, none⟩) k (c), .slice (some ⟨g, o + (k + 1) * 3, none⟩) (n - (k + 1)) (c - (k + 1))] 28)).drew.heap.size = w.heap.size + 1 + 1 + 1 := by show ((((w.alloc (.cells #[.int .i64 J, .slice (some ⟨g, o, none⟩) (n) (c)] 30)).alloc (.cells #[.int .i64 0, .slice none 0 0] 30)).alloc (.cells #[.slice (some ⟨g, o, none⟩) k (c), .slice (some ⟨g, o + (k + 1) * 3, none⟩) (n - (k + 1)) (c - (k + 1))] 28))).heap.size = _; simp
    have y0 : (((w.alloc (.cells #[.int .i64 J, .slice (some ⟨g, o, none⟩) (n) (c)] 30)).alloc (.cells #[.int .i64 0, .slice none 0 0] 30)).alloc (.cells #[.slice (some ⟨g, o, none⟩) k (c), .slice (some ⟨g, o + (k + 1) * 3, none⟩) (n - (k + 1)) (c - (k + 1))] 28)).drew.cell? ⟨w.heap.size, 0, none⟩ = some (.int .i64 J) := by go_simp
    have yf0 : (((w.alloc (.cells #[.int .i64 J, .slice (some ⟨g, o, none⟩) (n) (c)] 30)).alloc (.cells #[.int .i64 0, .slice none 0 0] 30)).alloc (.cells #[.slice (some ⟨g, o, none⟩) k (c), .slice (some ⟨g, o + (k + 1) * 3, none⟩) (n - (k + 1)) (c - (k + 1))] 28)).drew.frozen? ⟨w.heap.size, 0, none⟩ = false := by go_simp
    have y1 : (((w.alloc (.cells #[.int .i64 J, .slice (some ⟨g, o, none⟩) (n) (c)] 30)).alloc (.cells #[.int .i64 0, .slice none 0 0] 30)).alloc (.cells #[.slice (some ⟨g, o, none⟩) k (c), .slice (some ⟨g, o + (k + 1) * 3, none⟩) (n - (k + 1)) (c - (k + 1))] 28)).drew.cell? ⟨w.heap.size, 1, none⟩ = some (.slice (some ⟨g, o, none⟩) (n) (c)) := by go_simp
    have yf1 : (((w.alloc (.cells #[.int .i64 J, .slice (some ⟨g, o, none⟩) (n) (c)] 30)).alloc (.cells #[.int .i64 0, .slice none 0 0] 30)).alloc (.cells #[.slice (some ⟨g, o, none⟩) k (c), .slice (some ⟨g, o + (k + 1) * 3, none⟩) (n - (k + 1)) (c - (k + 1))] 28)).drew.frozen? ⟨w.heap.size, 1, none⟩ = false := by go_simp
    have z0 : (((w.alloc (.cells #[.int .i64 J, .slice (some ⟨g, o, none⟩) (n) (c)] 30)).alloc (.cells #[.int .i64 0, .slice none 0 0] 30)).alloc (.cells #[.slice (some ⟨g, o, none⟩) k (c), .slice (some ⟨g, o + (k + 1) * 3, none⟩) (n - (k + 1)) (c - (k + 1))] 28)).drew.cell? ⟨w.heap.size + 1, 0, none⟩ = some (.int .i64 0) := by go_simp
    have zf0 : (((w.alloc (.cells #[.int .i64 J, .slice (some ⟨g, o, none⟩) (n) (c)] 30)).alloc (.cells #[.int .i64 0, .slice none 0 0] 30)).alloc (.cells #[.slice (some ⟨g, o, none⟩) k (c), .slice (some ⟨g, o + (k + 1) * 3, none⟩) (n - (k + 1)) (c - (k + 1))] 28)).drew.frozen? ⟨w.heap.size + 1, 0, none⟩ = false := by go_simp
    have z1 : (((w.alloc (.cells #[.int .i64 J, .slice (some ⟨g, o, none⟩) (n) (c)] 30)).alloc (.cells #[.int .i64 0, .slice none 0 0] 30)).alloc (.cells #[.slice (some ⟨g, o, none⟩) k (c), .slice (some ⟨g, o + (k + 1) * 3, none⟩) (n - (k + 1)) (c - (k + 1))] 28)).drew.cell? ⟨w.heap.size + 1, 1, none⟩ = some (.slice none 0 0) := by go_simp
    have zf1 : (((w.alloc (.cells #[.int .i64 J, .slice (some ⟨g, o, none⟩) (n) (c)] 30)).alloc (.cells #[.int .i64 0, .slice none 0 0] 30)).alloc (.cells #[.slice (some ⟨g, o, none⟩) k (c), .slice (some ⟨g, o + (k + 1) * 3, none⟩) (n - (k + 1)) (c - (k + 1))] 28)).drew.frozen? ⟨w.heap.size + 1, 1, none⟩ = false := by go_simp
    have x0 : (((w.alloc (.cells #[.int .i64 J, .slice (some ⟨g, o, none⟩) (n) (c)] 30)).alloc (.cells #[.int .i64 0, .slice none 0 0] 30)).alloc (.cells #[.slice (some ⟨g, o, none⟩) k (c), .slice (some ⟨g, o + (k + 1) * 3, none⟩) (n - (k + 1)) (c - (k + 1))] 28)).drew.cell? ⟨w.heap.size + 1 + 1, 0, none⟩ = some (.slice (some ⟨g, o, none⟩) k (c)) := by go_simp
    have x1 : (((w.alloc (.cells #[.int .i64 J, .slice (some ⟨g, o, none⟩) (n) (c)] 30)).alloc (.cells #[.int .i64 0, .slice none 0 0] 30)).alloc (.cells #[.slice (some ⟨g, o, none⟩) k (c), .slice (some ⟨g, o + (k + 1) * 3, none⟩) (n - (k + 1)) (c - (k + 1))] 28)).drew.cell? ⟨w.heap.size + 1 + 1, 1, none⟩ = some (.slice (some ⟨g, o + (k + 1) * 3, none⟩) (n - (k + 1)) (c - (k + 1))) := by go_simp
    have R1 : Rd_Ditch (((w.alloc (.cells #[.int .i64 J, .slice (some ⟨g, o, none⟩) (n) (c)] 30)).alloc (.cells #[.int .i64 0, .slice none 0 0] 30)).alloc (.cells #[.slice (some ⟨g, o, none⟩) k (c), .slice (some ⟨g, o + (k + 1) * 3, none⟩) (n - (k + 1)) (c - (k + 1))] 28)).drew (((w.alloc (.cells #[.int .i64 J, .slice (some ⟨g, o, none⟩) (n) (c)] 30)).alloc (.cells #[.int .i64 0, .slice none 0 0] 30)).alloc (.cells #[.slice (some ⟨g, o, none⟩) k (c), .slice (some ⟨g, o + (k + 1) * 3, none⟩) (n - (k + 1)) (c - (k + 1))] 28)).drew.heap.size (some ⟨g, o, none⟩) k (xs.take k) := (T1.out.below d1).mono (by omega)
    have R2 : Rd_Ditch (((w.alloc (.cells #[.int .i64 J, .slice (some ⟨g, o, none⟩) (n) (c)] 30)).alloc (.cells #[.int .i64 0, .slice none 0 0] 30)).alloc (.cells #[.slice (some ⟨g, o, none⟩) k (c), .slice (some ⟨g, o + (k + 1) * 3, none⟩) (n - (k + 1)) (c - (k + 1))] 28)).drew (((w.alloc (.cells #[.int .i64 J, .slice (some ⟨g, o, none⟩) (n) (c)] 30)).alloc (.cells #[.int .i64 0, .slice none 0 0] 30)).alloc (.cells #[.slice (some ⟨g, o, none⟩) k (c), .slice (some ⟨g, o + (k + 1) * 3, none⟩) (n - (k + 1)) (c - (k + 1))] 28)).drew.heap.size (some ⟨g, o + (k + 1) * 3, none⟩) (n - (k + 1)) (xs.drop (k + 1)) := (T2.out.below d1).mono (by omega)
    have HZ := Lib.hid (show w.heap.size + 1 + 1 < (((w.alloc (.cells #[.int .i64 J, .slice (some ⟨g, o, none⟩) (n) (c)] 30)).alloc (.cells #[.int .i64 0, .slice none 0 0] 30)).alloc (.cells #[.slice (some ⟨g, o, none⟩) k (c), .slice (some ⟨g, o + (k + 1) * 3, none⟩) (n - (k + 1)) (c - (k + 1))] 28)).drew.heap.size by rw [hz]; omega)
    have SZ := Lib.hid hz
    have D1 := Lib.hid d1
    have RR1 := Lib.hid R1
    have RR2 := Lib.hid R2
    have M2 := Lib.hid (show n - (k + 1) ≤ 1048576 by omega)
    have Y0 := Lib.hid y0
    have YF0 := Lib.hid yf0
    have Y1 := Lib.hid y1
    have YF1 := Lib.hid yf1
    have Z0 := Lib.hid z0
    have ZF0 := Lib.hid zf0
    have Z1 := Lib.hid z1
    have ZF1 := Lib.hid zf1
    have X0 := Lib.hid x0
    have X1 := Lib.hid x1
    clear d1 hz y0 y1 yf0 yf1 z0 z1 zf0 zf1 x0 x1 R1 R2
    go_enter Try.func39, Try.ntmps39
    go_wp2_with fail
    go_region_with (go_at_call 32; refine (concatDitch_t (w.heap.size + 1 + 1) (some ⟨g, o, none⟩) (some ⟨g, o + (k + 1) * 3, none⟩) k (n - (k + 1)) (c) (c - (k + 1)) (xs.take k) (xs.drop (k + 1)) ((((w.alloc (.cells #[.int .i64 J, .slice (some ⟨g, o, none⟩) (n) (c)] 30)).alloc (.cells #[.int .i64 0, .slice none 0 0] 30)).alloc (.cells #[.slice (some ⟨g, o, none⟩) k (c), .slice (some ⟨g, o + (k + 1) * 3, none⟩) (n - (k + 1)) (c - (k + 1))] 28)).drew) HZ.out X0.out X1.out N1.out M2.out RR1.out RR2.out).mono ?_; rintro e1 W1 ⟨B, dB, rfl, b1, hwr⟩; clear X0 X1 RR1 RR2; (have s1 : w.heap.size + 2 < W1.heap.size := (by have := b1.size; have := SZ.out; omega)); (have d2 : Below w.heap.size w W1 := D1.out.trans (b1.mono (by have := SZ.out; omega))); (have y0' := (b1.cell (p := ⟨w.heap.size, 0, none⟩) (show w.heap.size < (((w.alloc (.cells #[.int .i64 J, .slice (some ⟨g, o, none⟩) (n) (c)] 30)).alloc (.cells #[.int .i64 0, .slice none 0 0] 30)).alloc (.cells #[.slice (some ⟨g, o, none⟩) k (c), .slice (some ⟨g, o + (k + 1) * 3, none⟩) (n - (k + 1)) (c - (k + 1))] 28)).drew.heap.size by have := SZ.out; omega)).trans Y0.out); (have yf0' := (b1.frozen (p := ⟨w.heap.size, 0, none⟩) (show w.heap.size < (((w.alloc (.cells #[.int .i64 J, .slice (some ⟨g, o, none⟩) (n) (c)] 30)).alloc (.cells #[.int .i64 0, .slice none 0 0] 30)).alloc (.cells #[.slice (some ⟨g, o, none⟩) k (c), .slice (some ⟨g, o + (k + 1) * 3, none⟩) (n - (k + 1)) (c - (k + 1))] 28)).drew.heap.size by have := SZ.out; omega)).trans YF0.out); (have y1' := (b1.cell (p := ⟨w.heap.size, 1, none⟩) (show w.heap.size < (((w.alloc (.cells #[.int .i64 J, .slice (some ⟨g, o, none⟩) (n) (c)] 30)).alloc (.cells #[.int .i64 0, .slice none 0 0] 30)).alloc (.cells #[.slice (some ⟨g, o, none⟩) k (c), .slice (some ⟨g, o + (k + 1) * 3, none⟩) (n - (k + 1)) (c - (k + 1))] 28)).drew.heap.size by have := SZ.out; omega)).trans Y1.out); (have yf1' := (b1.frozen (p := ⟨w.heap.size, 1, none⟩) (show w.heap.size < (((w.alloc (.cells #[.int .i64 J, .slice (some ⟨g, o, none⟩) (n) (c)] 30)).alloc (.cells #[.int .i64 0, .slice none 0 0] 30)).alloc (.cells #[.slice (some ⟨g, o, none⟩) k (c), .slice (some ⟨g, o + (k + 1) * 3, none⟩) (n - (k + 1)) (c - (k + 1))] 28)).drew.heap.size by have := SZ.out; omega)).trans YF1.out); (have z0' := (b1.cell (p := ⟨w.heap.size + 1, 0, none⟩) (show w.heap.size + 1 < (((w.alloc (.cells #[.int .i64 J, .slice (some ⟨g, o, none⟩) (n) (c)] 30)).alloc (.cells #[.int .i64 0, .slice none 0 0] 30)).alloc (.cells #[.slice (some ⟨g, o, none⟩) k (c), .slice (some ⟨g, o + (k + 1) * 3, none⟩) (n - (k + 1)) (c - (k + 1))] 28)).drew.heap.size by have := SZ.out; omega)).trans Z0.out); (have zf0' := (b1.frozen (p := ⟨w.heap.size + 1, 0, none⟩) (show w.heap.size + 1 < (((w.alloc (.cells #[.int .i64 J, .slice (some ⟨g, o, none⟩) (n) (c)] 30)).alloc (.cells #[.int .i64 0, .slice none 0 0] 30)).alloc (.cells #[.slice (some ⟨g, o, none⟩) k (c), .slice (some ⟨g, o + (k + 1) * 3, none⟩) (n - (k + 1)) (c - (k + 1))] 28)).drew.heap.size by have := SZ.out; omega)).trans ZF0.out); (have z1' := (b1.cell (p := ⟨w.heap.size + 1, 1, none⟩) (show w.heap.size + 1 < (((w.alloc (.cells #[.int .i64 J, .slice (some ⟨g, o, none⟩) (n) (c)] 30)).alloc (.cells #[.int .i64 0, .slice none 0 0] 30)).alloc (.cells #[.slice (some ⟨g, o, none⟩) k (c), .slice (some ⟨g, o + (k + 1) * 3, none⟩) (n - (k + 1)) (c - (k + 1))] 28)).drew.heap.size by have := SZ.out; omega)).trans Z1.out); (have zf1' := (b1.frozen (p := ⟨w.heap.size + 1, 1, none⟩) (show w.heap.size + 1 < (((w.alloc (.cells #[.int .i64 J, .slice (some ⟨g, o, none⟩) (n) (c)] 30)).alloc (.cells #[.int .i64 0, .slice none 0 0] 30)).alloc (.cells #[.slice (some ⟨g, o, none⟩) k (c), .slice (some ⟨g, o + (k + 1) * 3, none⟩) (n - (k + 1)) (c - (k + 1))] 28)).drew.heap.size by have := SZ.out; omega)).trans ZF1.out))
    go_wp2
    all_goals (
      have t0 : (((W1.setCell ⟨w.heap.size, 1, none⟩ (.slice B (k + (n - (k + 1))) dB)).setCell ⟨w.heap.size + 1, 0, none⟩ (.int .i64 J)).setCell ⟨w.heap.size + 1, 1, none⟩ (.slice B (k + (n - (k + 1))) dB)).cell? ⟨w.heap.size + 1, 0, none⟩ = some (.int .i64 J) := (World.cell?_setCell_other _ _ _ _ (by simp)).trans (World.cell?_setCell_same _ _ _ ((World.cell?_setCell_other _ _ _ _ (by simp)).trans z0'))
      have t1 : (((W1.setCell ⟨w.heap.size, 1, none⟩ (.slice B (k + (n - (k + 1))) dB)).setCell ⟨w.heap.size + 1, 0, none⟩ (.int .i64 J)).setCell ⟨w.heap.size + 1, 1, none⟩ (.slice B (k + (n - (k + 1))) dB)).cell? ⟨w.heap.size + 1, 1, none⟩ = some (.slice B (k + (n - (k + 1))) dB) := World.cell?_setCell_same _ _ _ ((World.cell?_setCell_other _ _ _ _ (by simp)).trans ((World.cell?_setCell_other _ _ _ _ (by simp)).trans z1'))
      have hbl : Below w.heap.size w (((W1.setCell ⟨w.heap.size, 1, none⟩ (.slice B (k + (n - (k + 1))) dB)).setCell ⟨w.heap.size + 1, 0, none⟩ (.int .i64 J)).setCell ⟨w.heap.size + 1, 1, none⟩ (.slice B (k + (n - (k + 1))) dB)) := ((d2.setCell (Nat.le_refl _) _).setCell (by simp) _).setCell (by simp) _
      have hw0 : Wr_Ditch W1 (w.heap.size + 2) B (k + (n - (k + 1))) (xs.take k ++ xs.drop (k + 1)) := hwr.lower (by have := SZ.out; omega)
      have hw6 : Wr_Ditch (((W1.setCell ⟨w.heap.size, 1, none⟩ (.slice B (k + (n - (k + 1))) dB)).setCell ⟨w.heap.size + 1, 0, none⟩ (.int .i64 J)).setCell ⟨w.heap.size + 1, 1, none⟩ (.slice B (k + (n - (k + 1))) dB)) w.heap.size B (n - 1) (xs.take k ++ xs.drop (k + 1)) := by
        rw [show n - 1 = k + (n - (k + 1)) from N3.out.symm]
        exact (hw0.abv (((Abv.refl _ _).setCell (by simp) _).setCell (by simp) _ |>.setCell (by simp) _)).lower (by omega)
      exact bodyPost_ret (v := .agg #[.int .i64 J, .slice B (k + (n - (k + 1))) dB]) (by simp [results, Try.results39, go_sem, t0, t1]) rfl ⟨B, dB, by rw [show n - 1 = k + (n - (k + 1)) from N3.out.symm], hbl, hw6⟩
    )

end Go.Proofs.Ytlibmlbefboolaa
