/- ReadTides of the model. -/
import Derived.Test.YticbnahndidplaaDoorTrI
import Derived.Test.YticbnahndidplaaDoorNumS
namespace Go.Proofs.YticbnahndidplaaDoor
open Go.RowKit

theorem part_sz {s : ByteArray} {b k : Nat} (hk : k < (parts s b).length) : ((parts s b).getD k ⟨#[]⟩).size ≤ s.size := by
  rw [List.getD_eq_getElem?_getD, List.getElem?_eq_getElem hk]
  have hm : (parts s b)[k] ∈ parts s b := List.getElem_mem _
  obtain ⟨x, hx, e⟩ := List.mem_map.1 hm
  have hb := cuts_bd s b _ 0 0 (Nat.le_refl _) (by omega) x hx
  show ((parts s b)[k]).size ≤ _
  rw [← e]
  unfold ext
  rw [ByteArray.size_extract]
  omega
theorem pr_two {p : ByteArray} {x : Int × Int} (h : IsPr 58 p.data.toList x) : ∃ p0 p1, parts p 58 = [p0, p1] ∧ DecOf p0.data.toList x.1 ∧ DecOf p1.data.toList x.2 := by
  obtain ⟨u, v, h1, h2, h3⟩ := h
  refine ⟨mkB u, mkB v, ?_, by simpa [mkB] using h2, by simpa [mkB] using h3⟩
  rw [parts_split]
  have e : splitL 58 p.data.toList = [u, v] := h1
  rw [e]
  rfl
theorem two_pr {p p0 p1 : ByteArray} {a b : Int} (h : parts p 58 = [p0, p1]) (h0 : DecOf p0.data.toList a) (h1 : DecOf p1.data.toList b) : IsPr 58 p.data.toList (a, b) := by
  rw [parts_split] at h
  obtain ⟨u, v, e⟩ : ∃ u v, splitL 58 p.data.toList = [u, v] := by
    match hs : splitL 58 p.data.toList with
    | [] => rw [hs] at h; simp at h
    | [x] => rw [hs] at h; simp at h
    | [x, y] => exact ⟨x, y, rfl⟩
    | x :: y :: z :: r => rw [hs] at h; simp at h
  rw [e] at h
  simp only [List.map_cons, List.map_nil, List.cons.injEq, and_true] at h
  obtain ⟨rfl, rfl⟩ := h
  exact ⟨u, v, e, by simpa [mkB] using h0, by simpa [mkB] using h1⟩

set_option maxRecDepth 100000 in
set_option maxHeartbeats 1600000 in
theorem readTides_spec (s : ByteArray) (w : World) (hs : s.size ≤ 1048576) :
    Calls Tryd.prog 16 #[.string s] w fun e w' => ∃ B d, e = .returned (.tuple #[.slice B ((rdRes s).getD []).length d, .bool (rdRes s).isSome]) ∧ Below w.heap.size w w' ∧ Wr_Tide w' w.heap.size B ((rdRes s).getD []).length ((rdRes s).getD []) := by
  have hpl := parts_len s 32
  have HZ := Lib.hid (fun (k : Nat) (hk : k < (parts s 32).length) => part_sz hk)
  have HT := Lib.hid (fun (k : Nat) (hk : k < (parts s 32).length) => take_map (parts s 32) hk)
  have HYES := Lib.hid (show AllPr (parts s 32) (parts s 32).length → TdOk (parts s 32).length ((parts s 32).map rp) → rdRes s = some ((parts s 32).map rp) from rd_yes)
  have HNO := Lib.hid (show ¬ TdOk (parts s 32).length ((parts s 32).map rp) → rdRes s = none from rd_no)
  have HBAD := Lib.hid (fun (j : Nat) (hj : j < (parts s 32).length) => rd_bad hj)
  have HLE := Lib.hid (show AllPr (parts s 32) (parts s 32).length → (parts s 32).length ≤ s.size from fun h => parts_le (fun j hj => pr_ne (h j hj)))
  obtain ⟨R, hR⟩ : ∃ R, R = rdRes s := ⟨_, rfl⟩
  rw [← hR] at HYES HNO HBAD ⊢
  clear hR
  go_enter Tryd.func16, Tryd.ntmps16
  go_wp2_with fail
  refine (l01Split_t s 32 _ hs (by omega)).mono ?_
  rintro e1 W1 ⟨A, c, rfl, b1, hw1⟩
  have HRD1 := Lib.hid hw1.rd
  have s1 := b1.size
  clear hw1
  generalize parts s 32 = L at *
  go_wp2
  go_loopw [5, 6, 7, 8, 9, 10, 11] (fun v i _ _ _ _ _ wr => ∃ k : Nat, k ≤ L.length ∧ i = .int .i64 (k : Int) ∧ Below W1.heap.size W1 wr ∧ W1.heap.size ≤ wr.heap.size ∧ wr.ownsRow W1.heap.size 69 2 v k (csTide ((L.take k).map rp)) ∧ Hid (AllPr L k)) (fun _ i _ _ _ _ _ _ => L.length - (intOf i).toNat)
  case atStart => exact ⟨0, by omega, rfl, (by repeat (first | assumption | exact Below.refl _ _ | (refine Below.setCell ?_ (by first | omega | (simp; done) | (simp; omega)) _) | apply below_drewN | apply Below.drew | (refine Below.alloc ?_ (by first | omega | (simp; done) | (simp; omega)) _))), by simp, ownsR_made rfl (Nat.le_refl _), fun j hj => absurd hj (by omega)⟩
  case round =>
    obtain ⟨k, hk, rfl, hb, hz, hown, hall⟩ := hrel
    have d0 : Below w.heap.size w wr := b1.trans (hb.mono s1)
    by_cases hlt : k < L.length
    · obtain ⟨ab, o, rfl, hbB, hc⟩ := HRD1.out.2 (by omega)
      have c1 := (hb.cell (p := ⟨ab, o + k, none⟩) hbB).trans (hc k hlt)
      clear hc
      have hsz := HZ.out k hlt
      have HS := Lib.hid (HT.out k hlt)
      have HB := Lib.hid (HBAD.out k hlt)
      have HNX := Lib.hid (show IsPr 58 (L.getD k ⟨#[]⟩).data.toList (prOf (rp (L.getD k ⟨#[]⟩))) → AllPr L (k + 1) from fun h j hj => by
        by_cases e : j = k
        · subst e; exact h
        · exact hall.out j (by omega))
      obtain ⟨p, hp⟩ : ∃ p, p = L.getD k ⟨#[]⟩ := ⟨_, rfl⟩
      rw [← hp] at c1 hsz HS HB HNX
      clear hp
      go_wp2_with fail
      refine (l01Split_t p 58 _ (by omega) (by omega)).mono ?_
      rintro e2 W2 ⟨A2, c2, rfl, b2, hw2⟩
      have s2 := b2.size
      have d2 : Below w.heap.size w W2 := d0.trans (b2.mono (by have := d0.size; omega))
      have hown2 := owns_below hown b2
      have HPT := Lib.hid (show ∀ q, parts p 58 = q → parts p 58 = q from fun _ h => h)
      have HTW := Lib.hid (show ∀ x, IsPr 58 p.data.toList x → ∃ p0 p1, parts p 58 = [p0, p1] ∧ DecOf p0.data.toList x.1 ∧ DecOf p1.data.toList x.2 from fun x h => pr_two h)
      have HTP := Lib.hid (show ∀ p0 p1 a b, parts p 58 = [p0, p1] → DecOf p0.data.toList a → DecOf p1.data.toList b → IsPr 58 p.data.toList (a, b) from fun p0 p1 a b h h0 h1 => two_pr h h0 h1)
      have HPS := Lib.hid (show ∀ j, j < (parts p 58).length → ((parts p 58).getD j ⟨#[]⟩).size ≤ p.size from fun j hj => part_sz hj)
      generalize parts p 58 = V at *
      have HRD2 := Lib.hid hw2.rd
      clear hw2 HPT
      by_cases c4 : V.length = 2
      · obtain ⟨p0, p1, rfl⟩ : ∃ p0 p1, V = [p0, p1] := by
          match V, c4 with
          | [a, b], _ => exact ⟨a, b, rfl⟩
        obtain ⟨vb, vo, rfl, hvb, hvc⟩ := HRD2.out.2 (by simp)
        have t0 : W2.cell? ⟨vb, vo, none⟩ = some (.string p0) := hvc 0 (by simp)
        have t1 : W2.cell? ⟨vb, vo + 1, none⟩ = some (.string p1) := hvc 1 (by simp)
        clear hvc
        have hp0 : p0.size ≤ p.size := HPS.out 0 (by simp)
        have hp1 : p1.size ≤ p.size := HPS.out 1 (by simp)
        have N0 := Lib.hid (fun (W : World) => num_spec p0 W (by omega) _ (numR_iff p0.data.toList))
        have N1 := Lib.hid (fun (W : World) => num_spec p1 W (by omega) _ (numR_iff p1.data.toList))
        have I0 := Lib.hid (fun n => (numR_iff p0.data.toList n))
        have I1 := Lib.hid (fun n => (numR_iff p1.data.toList n))
        generalize numR p0.data.toList = r0 at *
        generalize numR p1.data.toList = r1 at *
        have hz2 : W1.heap.size ≤ W2.heap.size := by omega
        cases hr0 : r0 with
        | none =>
          obtain rfl : R = none := HB.out fun h => by
            obtain ⟨q0, q1, e, h0, _⟩ := HTW.out _ h
            injection e with e0 _
            have := (I0.out _).2 (by rw [e0]; exact h0)
            rw [hr0] at this
            cases this
          subst hr0
          cases r1
          all_goals
            go_wp2_with fail
            refine (N0.out _).mono ?_
            rintro e3 W3 ⟨rfl, b3⟩
            have s3 := b3.size
            have t2 : W3.cell? ⟨vb, vo + 1, none⟩ = _ := (b3.cell (p := ⟨vb, vo + 1, none⟩) hvb).trans t1
            go_wp2_with fail
            refine (N1.out _).mono ?_
            rintro e4 W4 ⟨rfl, b4⟩
            have s4 := b4.size
            go_wp2
            go_ret2
            exact ⟨none, 0, rfl, (d2.trans (b3.mono d2.size)).trans (b4.mono (by have := d2.size; omega)), rfl, fun h => absurd h (by simp)⟩
        | some a =>
          have h0 := (I0.out a).1 hr0
          subst hr0
          cases hr1 : r1 with
          | none =>
            obtain rfl : R = none := HB.out fun h => by
              obtain ⟨q0, q1, e, _, h1⟩ := HTW.out _ h
              injection e with _ e1
              injection e1 with e1 _
              have := (I1.out _).2 (by rw [e1]; exact h1)
              rw [hr1] at this
              cases this
            subst hr1
            go_wp2_with fail
            refine (N0.out _).mono ?_
            rintro e3 W3 ⟨rfl, b3⟩
            have s3 := b3.size
            have t2 : W3.cell? ⟨vb, vo + 1, none⟩ = _ := (b3.cell (p := ⟨vb, vo + 1, none⟩) hvb).trans t1
            go_wp2_with fail
            refine (N1.out _).mono ?_
            rintro e4 W4 ⟨rfl, b4⟩
            have s4 := b4.size
            go_wp2
            go_ret2
            exact ⟨none, 0, rfl, (d2.trans (b3.mono d2.size)).trans (b4.mono (by have := d2.size; omega)), rfl, fun h => absurd h (by simp)⟩
          | some b =>
            have h1 := (I1.out b).1 hr1
            subst hr1
            have hip : IsPr 58 p.data.toList (prOf ⟨a, b⟩) := HTP.out p0 p1 a b rfl h0 h1
            have hrp : rp p = ⟨a, b⟩ := rp_of hip
            have HNX2 := Lib.hid (HNX.out (by rw [hrp]; exact hip))
            rw [hrp] at HS
            clear hip hrp h0 h1
            go_wp2_with fail
            refine (N0.out _).mono ?_
            rintro e3 W3 ⟨rfl, b3⟩
            have s3 := b3.size
            have t2 : W3.cell? ⟨vb, vo + 1, none⟩ = _ := (b3.cell (p := ⟨vb, vo + 1, none⟩) hvb).trans t1
            go_wp2_with fail
            refine (N1.out _).mono ?_
            rintro e4 W4 ⟨rfl, b4⟩
            have s4 := b4.size
            have hown4 := owns_below (owns_below hown2 b3) b4
            go_wp2_with (at_builtin; refine wplApp1Tide rfl _ _ rfl _ _ (by simp) _ _ _ ((L.take k).map rp) a b rfl (by exact hown4) rfl (by omega) (by omega) ?_; intro v1 w1 hown1 hb1 hz1)
            go_roundw
            case rel => exact ⟨k + 1, by omega, by go_num, (((hb.trans (b2.mono hz)).trans (b3.mono hz2)).trans (b4.mono (by omega))).trans hb1, by omega, by rw [HS.out]; exact hown1, HNX2.out⟩
            case measure => simp [intOf]; omega
      · have c4' : ((V.length : Int) != 2) = true := by simp; omega
        obtain rfl : R = none := HB.out fun h => by
          obtain ⟨q0, q1, e, _⟩ := HTW.out _ h
          rw [e] at c4
          exact c4 rfl
        go_wp2
        go_ret2
        exact ⟨none, 0, rfl, d2, rfl, fun h => absurd h (by simp)⟩
    · obtain rfl : k = L.length := by omega
      rw [List.take_length] at hown
      obtain ⟨B, d, rfl, hw⟩ := own_wrTide hown
      have hrd := Lib.hid hw.rd
      have HWR := Lib.hid (hw.lower s1)
      have hn : L.length ≤ 1048576 := by have := HLE.out hall.out; omega
      clear hown hw
      by_cases h : TdOk L.length (L.map rp)
      · have HV := Lib.hid h
        obtain rfl : R = some (L.map rp) := HYES.out hall.out h
        clear h
        go_wp2_with (first | (go_at_call 46; refine (l08Ok_any _ _ _ (L.map rp) _ hn hrd.out true ⟨fun _ => HV.out, fun _ => rfl⟩).mono ?_; rintro e3 W3 ⟨rfl, b3⟩))
        go_ret2
        exact ⟨B, d, by simp, d0.trans (b3.mono d0.size), by
          have h8 := HWR.out.below b3
          simpa using h8⟩
      · have HV := Lib.hid h
        obtain rfl : R = none := HNO.out h
        clear h
        go_wp2_with (first | (go_at_call 46; refine (l08Ok_any _ _ _ (L.map rp) _ hn hrd.out false ⟨fun h => by simp at h, fun h => absurd h HV.out⟩).mono ?_; rintro e3 W3 ⟨rfl, b3⟩))
        go_ret2
        exact ⟨none, 0, rfl, d0.trans (b3.mono d0.size), rfl, fun h => absurd h (by simp)⟩

end Go.Proofs.YticbnahndidplaaDoor
