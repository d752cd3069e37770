/- ReadWater of the model. -/
import Derived.Test.YtfpfmfhhcgafcaaDoorWaL
import Derived.Test.YtfpfmfhhcgafcaaDoorWatC
import Derived.Test.YtfpfmfhhcgafcaaDoorNumS
import Derived.Test.YtfpfmfhhcgafcaaDoorOwnS
import Derived.Test.YtfpfmfhhcgafcaaDoorChars
namespace Go.Proofs.YtfpfmfhhcgafcaaDoor
open Go.RowKit

theorem zb5 {w V : World} (E : Below (w.heap.size + 1) (w.alloc (.cells #[.int .i64 0, .int .i64 0, .int .i64 0, .int .i64 0, .int .i64 0] 25)) V) : V.cell? ⟨w.heap.size, 0, none⟩ = some (.int .i64 0) ∧ V.cell? ⟨w.heap.size, 1, none⟩ = some (.int .i64 0) ∧ V.cell? ⟨w.heap.size, 2, none⟩ = some (.int .i64 0) ∧ V.cell? ⟨w.heap.size, 3, none⟩ = some (.int .i64 0) ∧ V.cell? ⟨w.heap.size, 4, none⟩ = some (.int .i64 0) ∧ w.heap.size < V.heap.size :=
  ⟨(E.cell (p := ⟨w.heap.size, 0, none⟩) (Nat.lt_succ_self _)).trans (by first | (simp; done) | go_simp), (E.cell (p := ⟨w.heap.size, 1, none⟩) (Nat.lt_succ_self _)).trans (by first | (simp; done) | go_simp), (E.cell (p := ⟨w.heap.size, 2, none⟩) (Nat.lt_succ_self _)).trans (by first | (simp; done) | go_simp), (E.cell (p := ⟨w.heap.size, 3, none⟩) (Nat.lt_succ_self _)).trans (by first | (simp; done) | go_simp), (E.cell (p := ⟨w.heap.size, 4, none⟩) (Nat.lt_succ_self _)).trans (by first | (simp; done) | go_simp), Nat.lt_of_lt_of_le (Nat.lt_succ_self _) (by simpa using E.size)⟩
theorem zbF {w V : World} (E : Below (w.heap.size + 1) (w.alloc (.cells #[.int .i64 0, .int .i64 0, .int .i64 0, .int .i64 0, .int .i64 0] 25)) V) : ∀ i, i < 5 → V.frozen? ⟨w.heap.size, i, none⟩ = false := fun i hi =>
  (E.frozen (p := ⟨w.heap.size, i, none⟩) (Nat.lt_succ_self _)).trans (by
    match i, hi with
    | 0, _ => first | (simp; done) | go_simp
    | 1, _ => first | (simp; done) | go_simp
    | 2, _ => first | (simp; done) | go_simp
    | 3, _ => first | (simp; done) | go_simp
    | 4, _ => first | (simp; done) | go_simp)
theorem zbDW {w V : World} (E : Below (w.heap.size + 1) (w.alloc (.cells #[.int .i64 0, .int .i64 0, .int .i64 0, .int .i64 0, .int .i64 0] 25)) V) : Below w.heap.size w V := ((Below.alloc (Below.refl _ _) (Nat.le_refl _) _ : Below w.heap.size w (w.alloc (.cells #[.int .i64 0, .int .i64 0, .int .i64 0, .int .i64 0, .int .i64 0] 25)))).trans (E.mono (by omega))
theorem fiveW {w V : World} (E : Below (w.heap.size + 1) (w.alloc (.cells #[.int .i64 0, .int .i64 0, .int .i64 0, .int .i64 0, .int .i64 0] 25)) V) (v0 v1 v2 v3 v4 : Value) (W : World) (hW : W = ((((V.setCell ⟨w.heap.size, 0, none⟩ v0).setCell ⟨w.heap.size, 1, none⟩ v1).setCell ⟨w.heap.size, 2, none⟩ v2).setCell ⟨w.heap.size, 3, none⟩ v3).setCell ⟨w.heap.size, 4, none⟩ v4) :
    W.cell? ⟨w.heap.size, 0, none⟩ = some v0 ∧ W.cell? ⟨w.heap.size, 1, none⟩ = some v1 ∧ W.cell? ⟨w.heap.size, 2, none⟩ = some v2 ∧ W.cell? ⟨w.heap.size, 3, none⟩ = some v3 ∧ W.cell? ⟨w.heap.size, 4, none⟩ = some v4 ∧ Below w.heap.size w W ∧ w.heap.size < W.heap.size := by
  obtain ⟨h0, h1, h2, h3, h4, hs⟩ := zb5 E
  have c : ∀ {W : World} {i : Nat} (j : Nat) {o : Value} (v : Value), W.cell? ⟨w.heap.size, i, none⟩ = some o → (W.setCell ⟨w.heap.size, j, none⟩ v).cell? ⟨w.heap.size, i, none⟩ = some (if i = j then v else o) := fun {W i} j {o} v h => by
    by_cases e : i = j
    · subst e; rw [if_pos rfl]; exact World.cell?_setCell_same W _ _ h
    · rw [if_neg e, World.cell?_setCell_other W _ _ _ (fun g => by injection g with _ g2; omega)]; exact h
  subst hW
  refine ⟨?_, ?_, ?_, ?_, ?_, ?_, ?_⟩
  · simpa using c 4 v4 (c 3 v3 (c 2 v2 (c 1 v1 (c 0 v0 h0))))
  · simpa using c 4 v4 (c 3 v3 (c 2 v2 (c 1 v1 (c 0 v0 h1))))
  · simpa using c 4 v4 (c 3 v3 (c 2 v2 (c 1 v1 (c 0 v0 h2))))
  · simpa using c 4 v4 (c 3 v3 (c 2 v2 (c 1 v1 (c 0 v0 h3))))
  · simpa using c 4 v4 (c 3 v3 (c 2 v2 (c 1 v1 (c 0 v0 h4))))
  · exact (((((zbDW E).setCell (Nat.le_refl _) _).setCell (Nat.le_refl _) _).setCell (Nat.le_refl _) _).setCell (Nat.le_refl _) _).setCell (Nat.le_refl _) _
  · simpa [World.setCell] using hs

theorem bytes_extW {a b : ByteArray} (h : a.data.toList = b.data.toList) : a = b := bytes_ext h
def kwB : Nat → ByteArray
  | 0 => ⟨#[114, 97, 105, 110]⟩
  | 1 => ⟨#[115, 101, 101, 112]⟩
  | 2 => ⟨#[100, 114, 121]⟩
  | 3 => ⟨#[112, 117, 109, 112]⟩
  | _ => ⟨#[115, 108, 117, 105, 99, 101]⟩
theorem kwB_list (k : Nat) (hk : k < 5) : (kwB k).data.toList = kwW k := by
  match k, hk with
  | 0, _ => rfl
  | 1, _ => rfl
  | 2, _ => rfl
  | 3, _ => rfl
  | 4, _ => rfl
theorem strFW {a b : ByteArray} (h : ¬ a = b) : (a.toList == b.toList) = false := by
  rw [ByteArray.toList_eq, ByteArray.toList_eq, beq_eq_false_iff_ne]
  intro e
  exact h (bytes_ext e)
theorem strTW {a b : ByteArray} (h : a = b) : (a.toList == b.toList) = true := by
  subst h; simp
theorem getQ (P : List ByteArray) (k : Nat) (hk : k < P.length) : (P.map (fun p : ByteArray => p.data.toList)).getD k [] = (P.getD k ⟨#[]⟩).data.toList := by
  simp [List.getD_eq_getElem?_getD, List.getElem?_map, hk]

set_option maxRecDepth 100000 in
set_option maxHeartbeats 3200000 in
theorem wr_spec (f : List UInt8 → Option Int) (hf : ∀ l n, f l = some n ↔ DecOf l n) (s : ByteArray) (w : World) (hs : s.size ≤ 1048576) (res : Option RWater) (hres : ∀ x : RWater, res = some x ↔ waR x ∧ s.data.toList = wL x.f0 x.f1 x.f2 x.f3 x.f4) :
    Calls Tryd.prog 8 #[.string s] w fun e w' => e = .returned (.tuple #[.agg #[.int .i64 (res.getD zWater).f0, .int .i64 (res.getD zWater).f1, .int .i64 (res.getD zWater).f2, .int .i64 (res.getD zWater).f3, .int .i64 (res.getD zWater).f4], .bool res.isSome]) ∧ Below w.heap.size w w' := by
  have NOP := Lib.hid (show ∀ x : RWater, res = some x → waR x ∧ s.data.toList = wL x.f0 x.f1 x.f2 x.f3 x.f4 from fun x h => (hres x).1 h)
  have YES := Lib.hid (show ∀ x : RWater, waR x → s.data.toList = wL x.f0 x.f1 x.f2 x.f3 x.f4 → res = some x from fun x h g => (hres x).2 ⟨h, g⟩)
  have HF := Lib.hid hf
  clear hres
  go_enter Tryd.func8, Tryd.ntmps8
  go_wp2_with fail
  refine (l01Split_t s 32 _ hs (by omega)).mono ?_
  rintro q1 W1 ⟨A, cc, rfl, b1, hw⟩
  have E1 : Below (w.heap.size + 1) (w.alloc (.cells #[.int .i64 0, .int .i64 0, .int .i64 0, .int .i64 0, .int .i64 0] 25)) W1 := b1.mono (by first | omega | (simp; done) | (simp; omega))
  clear b1
  obtain ⟨z0, z1, z2, z3, z4, zs⟩ := zb5 E1
  have zf0 := zbF E1 0 (by omega)
  have zf1 := zbF E1 1 (by omega)
  have zf2 := zbF E1 2 (by omega)
  have zf3 := zbF E1 3 (by omega)
  have zf4 := zbF E1 4 (by omega)
  obtain ⟨P, hP⟩ : ∃ P, P = parts s 32 := ⟨_, rfl⟩
  have HQ := Lib.hid (parts_listW hP.symm)
  have HPS := Lib.hid (show ∀ p ∈ P, p.size ≤ 1048576 from fun p hp => Nat.le_trans (psz hP p hp) hs)
  rw [← hP] at hw ⊢
  have HRd := Lib.hid hw.rd
  clear hw hP
  obtain ⟨Q, hQ⟩ : ∃ Q, Q = splitL 32 s.data.toList := ⟨_, rfl⟩
  have HQ1 := Lib.hid hQ
  have HQ2 := Lib.hid (show Q = P.map (fun p : ByteArray => p.data.toList) by rw [hQ]; exact HQ.out)
  clear hQ HQ
  by_cases c5 : P.length = 10
  · have h10 : Q.length = 10 := by rw [HQ2.out, List.length_map]; exact c5
    have HKQ := Lib.hid (show ∀ k, k < 10 → Q.getD k [] = (P.getD k ⟨#[]⟩).data.toList from fun k hk => by rw [HQ2.out]; exact getQ P k (by omega))
    obtain ⟨bb, oo, rfl, hbb1, hc⟩ := HRd.out.2 (by omega)
    have HCC := Lib.hid hc
    clear hc
    have HKC := Lib.hid (show ∀ k, k < 10 → W1.cell? ⟨bb, oo + k, none⟩ = some (.string (P.getD k ⟨#[]⟩)) from fun k hk => HCC.out k (by omega))
    have HPZ := Lib.hid (show ∀ k, k < 10 → (P.getD k ⟨#[]⟩).size ≤ 1048576 from fun k hk => HPS.out _ (by
      rw [List.getD_eq_getElem?_getD, List.getElem?_eq_getElem (show k < P.length by omega)]
      exact List.getElem_mem _))
    have HNO := Lib.hid (show ∀ k, k < 5 → ¬ okW f Q k → res = none from fun k hk hno => by
      cases hr : res with
      | none => rfl
      | some x =>
        obtain ⟨h1, h2⟩ := NOP.out x hr
        exact absurd ((wat_parts HF.out h1 h2 HQ1.out).2.1 k hk) hno)
    have HFN := Lib.hid (show (∀ k, k < 5 → okW f Q k) → waOk (vlW f Q 0) (vlW f Q 1) (vlW f Q 2) (vlW f Q 3) (vlW f Q 4) → res = some ⟨vlW f Q 0, vlW f Q 1, vlW f Q 2, vlW f Q 3, vlW f Q 4⟩ from fun h1 h2 => YES.out ⟨_, _, _, _, _⟩ h2 (wat_yes HF.out HQ1.out h10 h1))
    have HFX := Lib.hid (show ¬ waOk (vlW f Q 0) (vlW f Q 1) (vlW f Q 2) (vlW f Q 3) (vlW f Q 4) → res = none from fun hno => by
      cases hr : res with
      | none => rfl
      | some x =>
        obtain ⟨h1, h2⟩ := NOP.out x hr
        have e := (wat_parts HF.out h1 h2 HQ1.out).2.2
        rw [e] at h1
        exact absurd h1 hno)
    have HOK := Lib.hid (show ∀ k, k < 5 → (okW f Q k ↔ (P.getD (2 * k) ⟨#[]⟩) = kwB k ∧ (f (P.getD (2 * k + 1) ⟨#[]⟩).data.toList).isSome = true) from fun k hk => by
      unfold okW
      rw [HKQ.out (2 * k) (by omega), HKQ.out (2 * k + 1) (by omega)]
      exact ⟨fun h => ⟨bytes_ext (h.1.trans (kwB_list k hk).symm), h.2⟩, fun h => ⟨by rw [h.1]; exact kwB_list k hk, h.2⟩⟩)
    have HVL := Lib.hid (show ∀ k, k < 5 → vlW f Q k = (f (P.getD (2 * k + 1) ⟨#[]⟩).data.toList).getD 0 from fun k hk => by
      unfold vlW
      rw [HKQ.out (2 * k + 1) (by omega)])
    obtain ⟨vl, hvl⟩ : ∃ vl, vl = vlW f Q := ⟨_, rfl⟩
    rw [← hvl] at HFN HFX HVL
    obtain ⟨ok, hok⟩ : ∃ ok, ok = okW f Q := ⟨_, rfl⟩
    rw [← hok] at HNO HFN HOK
    clear hvl hok h10
    go_wp2_with fail
    obtain ⟨U, hU⟩ : ∃ U, U = W1.alloc (.cells #[.string ⟨#[114, 97, 105, 110]⟩, .string ⟨#[115, 101, 101, 112]⟩, .string ⟨#[100, 114, 121]⟩, .string ⟨#[112, 117, 109, 112]⟩, .string ⟨#[115, 108, 117, 105, 99, 101]⟩] 9) := ⟨_, rfl⟩
    have hUs : U.heap.size = W1.heap.size + 1 := by rw [hU]; simp
    have EU : Below W1.heap.size W1 U := by rw [hU]; exact Below.alloc (Below.refl _ _) (Nat.le_refl _) _
    have HKB := Lib.hid (show ∀ k, k < 5 → U.cell? ⟨W1.heap.size, k, none⟩ = some (.string (kwB k)) from fun k hk => by
      rw [hU]
      match k, hk with
      | 0, _ => first | (simp [kwB]; done) | go_simp
      | 1, _ => first | (simp [kwB]; done) | go_simp
      | 2, _ => first | (simp [kwB]; done) | go_simp
      | 3, _ => first | (simp [kwB]; done) | go_simp
      | 4, _ => first | (simp [kwB]; done) | go_simp)
    have E2 : Below (w.heap.size + 1) (w.alloc (.cells #[.int .i64 0, .int .i64 0, .int .i64 0, .int .i64 0, .int .i64 0] 25)) U := E1.trans (EU.mono (by omega))
    have HK2 := Lib.hid (show ∀ k, k < 10 → U.cell? ⟨bb, oo + k, none⟩ = some (.string (P.getD k ⟨#[]⟩)) from fun k hk => (EU.cell (p := ⟨bb, oo + k, none⟩) hbb1).trans (HKC.out k hk))
    rw [← hU]
    clear hU HCC HKC z0 z1 z2 z3 z4 zf0 zf1 zf2 zf3 zf4 HRd
    have hbbU : bb < U.heap.size := by omega
    have OW := owns_made (W := U) (k := U.heap.size) (base := U.heap.size) (e := 2) rfl (Nat.le_refl _)
    rw [hUs] at OW
    go_loopw [6, 7, 8, 9] (fun v i _ _ wr => ∃ q : Nat, q ≤ 5 ∧ i = .int .i64 (q : Int) ∧ Below U.heap.size U wr ∧ U.heap.size ≤ wr.heap.size ∧ wr.ownsRow U.heap.size 2 1 v q ((rowW vl q).map (Value.int .i64)) ∧ Hid (∀ k, k < q → ok k)) (fun _ i _ _ _ => 5 - (intOf i).toNat)
    case atStart => exact ⟨0, by omega, rfl, Below.alloc (Below.refl _ _) (Nat.le_refl _) _, by simp, by rw [hUs]; exact OW, Lib.hid (fun k hk => absurd hk (by omega))⟩
    case round =>
      obtain ⟨q, hq, rfl, hb, hz, hown, hoks⟩ := hrel
      by_cases hlt : q < 5
      · obtain ⟨n, hn⟩ : ∃ n, n = 2 * q := ⟨_, rfl⟩
        obtain ⟨m, hm⟩ : ∃ m, m = 2 * q + 1 := ⟨_, rfl⟩
        have e1 : 2 * (q : Int) = (n : Int) := by omega
        have e2 : (n : Int) + 1 = (m : Int) := by omega
        have i1 := IntWalk.i64_in (n : Int) (by omega)
        have i2 := IntWalk.i64_in (m : Int) (by omega)
        have hPl : (P.length : Int) = 10 := by omega
        have hm10 : m < 10 := by omega
        have hn10 : n < 10 := by omega
        have p0 := (hb.cell (p := ⟨bb, oo + n, none⟩) hbbU).trans (HK2.out n hn10)
        have p1 := (hb.cell (p := ⟨bb, oo + m, none⟩) hbbU).trans (HK2.out m hm10)
        have p2 := (hb.cell (p := ⟨W1.heap.size, q, none⟩) (show W1.heap.size < U.heap.size by omega)).trans (HKB.out q hlt)
        have hok := HOK.out q hlt
        have hvl := HVL.out q hlt
        have hs1 := HPZ.out m hm10
        have HR := Lib.hid (rowW_succ vl q)
        rw [← hm, ← hn] at hok
        rw [← hm] at hvl
        obtain ⟨w0, hw0⟩ : ∃ x, x = P.getD n ⟨#[]⟩ := ⟨_, rfl⟩
        obtain ⟨w1, hw1⟩ : ∃ x, x = P.getD m ⟨#[]⟩ := ⟨_, rfl⟩
        obtain ⟨kq, hkq⟩ : ∃ x, x = kwB q := ⟨_, rfl⟩
        rw [← hw0] at p0 hok
        rw [← hw1] at p1 hok hvl hs1
        rw [← hkq] at p2 hok
        obtain ⟨r, hr⟩ : ∃ r, r = f w1.data.toList := ⟨_, rfl⟩
        have NS := Lib.hid (fun W => num_spec w1 W hs1 r (fun n => by rw [hr]; exact HF.out _ n))
        rw [← hr] at hok hvl
        obtain ⟨vv, hvv⟩ : ∃ v, v = r.getD 0 := ⟨_, rfl⟩
        obtain ⟨bv, hbv⟩ : ∃ v, v = r.isSome := ⟨_, rfl⟩
        rw [← hvv, ← hbv] at NS
        rw [← hvv] at hvl
        rw [← hbv] at hok
        have HOKQ := Lib.hid hok
        have HVQ := Lib.hid hvl
        clear hok hvl hw0 hw1 hkq hr hvv hbv hn hm hs1
        go_wp2_with (go_at_call 16; refine (NS.out _).mono ?_; rintro e3 W3 ⟨rfl, b3⟩; have d3 : Below U.heap.size U W3 := hb.trans (b3.mono hz); have t0 := (b3.cell (p := ⟨bb, oo + n, none⟩) (show bb < wr.heap.size by omega)).trans p0; have t2 := (b3.cell (p := ⟨W1.heap.size, q, none⟩) (show W1.heap.size < wr.heap.size by omega)).trans p2; have hown3 := owns_below hown b3; have hz3 := b3.size)
        have EW : Below (w.heap.size + 1) (w.alloc (.cells #[.int .i64 0, .int .i64 0, .int .i64 0, .int .i64 0, .int .i64 0] 25)) W3 := E2.trans (d3.mono (by have := E2.size; simp at this; omega))
        obtain ⟨z0, z1, z2, z3, z4, zs⟩ := zb5 EW
        have zf0 := zbF EW 0 (by omega)
        have zf1 := zbF EW 1 (by omega)
        have zf2 := zbF EW 2 (by omega)
        have zf3 := zbF EW 3 (by omega)
        have zf4 := zbF EW 4 (by omega)
        have hz3' : U.heap.size ≤ W3.heap.size := Nat.le_trans hz hz3
        cases bv
        · have hn := HNO.out q hlt (fun h => by have := (HOKQ.out.1 h).2; cases this)
          subst hn
          clear HFN HFX HNO YES NOP
          go_quiet (fail)
          go_wp2
          have ED := below_drewN EW nq
          obtain ⟨Zw, hZ⟩ : ∃ Z, Z = ((((((W3.drewN nq).setCell ⟨w.heap.size, 0, none⟩ (.int .i64 0)).setCell ⟨w.heap.size, 1, none⟩ (.int .i64 0)).setCell ⟨w.heap.size, 2, none⟩ (.int .i64 0)).setCell ⟨w.heap.size, 3, none⟩ (.int .i64 0)).setCell ⟨w.heap.size, 4, none⟩ (.int .i64 0)) := ⟨_, rfl⟩
          obtain ⟨p0, p1, p2, p3, p4, DZ, SZ⟩ := fiveW ED _ _ _ _ _ Zw hZ
          rw [← hZ]
          clear hZ
          exact bodyPost_ret (v := .tuple #[.agg #[.int .i64 0, .int .i64 0, .int .i64 0, .int .i64 0, .int .i64 0], .bool false]) (by simp [results, Tryd.results8, go_sem, p0, p1, p2, p3, p4]) rfl ⟨rfl, DZ⟩
        · by_cases hww : w0 = kq
          · have g := strTW hww
            have HOQ := Lib.hid (HOKQ.out.2 ⟨hww, rfl⟩)
            clear hww
            go_quiet (fail)
            go_wp2_with (at_builtin; refine wpl_app1 rfl _ _ rfl _ _ _ _ _ _ rfl (by exact hown3) rfl (by omega) (by exact hz3') ?_; intro v1 w1 hown1 hb1 hz1)
            go_roundw
            case rel => exact ⟨q + 1, by omega, by go_num, (below_drewN d3 nq).trans hb1, Nat.le_trans hz3' hz1, by rw [HR.out, HVQ.out]; simpa using hown1, Lib.hid (fun k hk => by
              by_cases e : k = q
              · subst e; exact HOQ.out
              · exact hoks.out k (by omega))⟩
            case measure => simp [intOf]; omega
          · have g := strFW hww
            have hn := HNO.out q hlt (fun h => hww (HOKQ.out.1 h).1)
            subst hn
            clear HFN HFX HNO YES NOP hww
            go_quiet (fail)
            go_wp2
            have ED := below_drewN EW nq
            obtain ⟨Zw, hZ⟩ : ∃ Z, Z = ((((((W3.drewN nq).setCell ⟨w.heap.size, 0, none⟩ (.int .i64 0)).setCell ⟨w.heap.size, 1, none⟩ (.int .i64 0)).setCell ⟨w.heap.size, 2, none⟩ (.int .i64 0)).setCell ⟨w.heap.size, 3, none⟩ (.int .i64 0)).setCell ⟨w.heap.size, 4, none⟩ (.int .i64 0)) := ⟨_, rfl⟩
            obtain ⟨p0, p1, p2, p3, p4, DZ, SZ⟩ := fiveW ED _ _ _ _ _ Zw hZ
            rw [← hZ]
            clear hZ
            exact bodyPost_ret (v := .tuple #[.agg #[.int .i64 0, .int .i64 0, .int .i64 0, .int .i64 0, .int .i64 0], .bool false]) (by simp [results, Tryd.results8, go_sem, p0, p1, p2, p3, p4]) rfl ⟨rfl, DZ⟩
      · obtain rfl : q = 5 := by omega
        obtain ⟨B, d, rfl, hw⟩ := own_wr hown
        obtain ⟨b0, o0, rfl, hl0, hb0, hcv⟩ := hw.2 (by omega)
        have a0 := (hcv 0 (by omega)).1
        have a1 := (hcv 1 (by omega)).1
        have a2 := (hcv 2 (by omega)).1
        have a3 := (hcv 3 (by omega)).1
        have a4 := (hcv 4 (by omega)).1
        rw [rowW_at _ _ _ (by omega)] at a0 a1 a2 a3 a4
        clear hcv hown hw
        have HALL := Lib.hid (show ∀ k, k < 5 → ok k from fun k hk => hoks.out k hk)
        generalize vl 0 = v0 at *
        generalize vl 1 = v1 at *
        generalize vl 2 = v2 at *
        generalize vl 3 = v3 at *
        generalize vl 4 = v4 at *
        rw [Nat.add_zero] at a0
        have EW : Below (w.heap.size + 1) (w.alloc (.cells #[.int .i64 0, .int .i64 0, .int .i64 0, .int .i64 0, .int .i64 0] 25)) wr := E2.trans (hb.mono (by have := E2.size; simp at this; omega))
        obtain ⟨z0, z1, z2, z3, z4, zs⟩ := zb5 EW
        have zf0 := zbF EW 0 (by omega)
        have zf1 := zbF EW 1 (by omega)
        have zf2 := zbF EW 2 (by omega)
        have zf3 := zbF EW 3 (by omega)
        have zf4 := zbF EW 4 (by omega)
        have ne1 : ¬ w.heap.size = wr.heap.size := by omega
        have ne2 : ¬ wr.heap.size = w.heap.size := by omega
        by_cases hv : waOk v0 v1 v2 v3 v4
        · have hn := HFN.out HALL.out hv
          subst hn
          have HT := Lib.hid (show true = decide (waOk v0 v1 v2 v3 v4) from (decide_eq_true hv).symm)
          clear hv HFN HFX
          go_wp2_with fail
          go_region
          go_wp2_with (go_at_call 11; refine (waS_any _ _ v0 v1 v2 v3 v4 _ (by simp [AtWater]) true HT.out).mono ?_; rintro e4 w4 ⟨rfl, rfl⟩)
          obtain ⟨Zw, hZ⟩ : ∃ Z, Z = (((((wr.setCell ⟨w.heap.size, 0, none⟩ (.int .i64 v0)).setCell ⟨w.heap.size, 1, none⟩ (.int .i64 v1)).setCell ⟨w.heap.size, 2, none⟩ (.int .i64 v2)).setCell ⟨w.heap.size, 3, none⟩ (.int .i64 v3)).setCell ⟨w.heap.size, 4, none⟩ (.int .i64 v4)) := ⟨_, rfl⟩
          obtain ⟨p0, p1, p2, p3, p4, DZ, SZ⟩ := fiveW EW _ _ _ _ _ Zw hZ
          rw [← hZ]
          clear hZ
          have AZ : Below Zw.heap.size Zw ((Zw.alloc (.cells #[.int .i64 v0, .int .i64 v1, .int .i64 v2, .int .i64 v3, .int .i64 v4] 25)).drew) := Below.drew (Below.alloc (Below.refl _ _) (Nat.le_refl _) _)
          have r0 := (AZ.cell (p := ⟨w.heap.size, 0, none⟩) SZ).trans p0
          have r1 := (AZ.cell (p := ⟨w.heap.size, 1, none⟩) SZ).trans p1
          have r2 := (AZ.cell (p := ⟨w.heap.size, 2, none⟩) SZ).trans p2
          have r3 := (AZ.cell (p := ⟨w.heap.size, 3, none⟩) SZ).trans p3
          have r4 := (AZ.cell (p := ⟨w.heap.size, 4, none⟩) SZ).trans p4
          have DZ2 := DZ.trans (AZ.mono (Nat.le_of_lt SZ))
          generalize (Zw.alloc (.cells #[.int .i64 v0, .int .i64 v1, .int .i64 v2, .int .i64 v3, .int .i64 v4] 25)).drew = Zw2 at r0 r1 r2 r3 r4 DZ2 ⊢
          exact bodyPost_ret (v := .tuple #[.agg #[.int .i64 v0, .int .i64 v1, .int .i64 v2, .int .i64 v3, .int .i64 v4], .bool true]) (by simp [results, Tryd.results8, go_sem, r0, r1, r2, r3, r4]) rfl ⟨rfl, DZ2⟩
        · have hn := HFX.out hv
          subst hn
          have HT := Lib.hid (show false = decide (waOk v0 v1 v2 v3 v4) from (decide_eq_false hv).symm)
          clear hv HFN HFX
          go_wp2_with fail
          go_region
          go_wp2_with (go_at_call 11; refine (waS_any _ _ v0 v1 v2 v3 v4 _ (by simp [AtWater]) false HT.out).mono ?_; rintro e4 w4 ⟨rfl, rfl⟩)
          obtain ⟨Zw, hZ⟩ : ∃ Z, Z = (((((wr.setCell ⟨w.heap.size, 0, none⟩ (.int .i64 0)).setCell ⟨w.heap.size, 1, none⟩ (.int .i64 0)).setCell ⟨w.heap.size, 2, none⟩ (.int .i64 0)).setCell ⟨w.heap.size, 3, none⟩ (.int .i64 0)).setCell ⟨w.heap.size, 4, none⟩ (.int .i64 0)) := ⟨_, rfl⟩
          obtain ⟨p0, p1, p2, p3, p4, DZ, SZ⟩ := fiveW EW _ _ _ _ _ Zw hZ
          rw [← hZ]
          clear hZ
          have AZ : Below Zw.heap.size Zw ((Zw.alloc (.cells #[.int .i64 v0, .int .i64 v1, .int .i64 v2, .int .i64 v3, .int .i64 v4] 25)).drew) := Below.drew (Below.alloc (Below.refl _ _) (Nat.le_refl _) _)
          have r0 := (AZ.cell (p := ⟨w.heap.size, 0, none⟩) SZ).trans p0
          have r1 := (AZ.cell (p := ⟨w.heap.size, 1, none⟩) SZ).trans p1
          have r2 := (AZ.cell (p := ⟨w.heap.size, 2, none⟩) SZ).trans p2
          have r3 := (AZ.cell (p := ⟨w.heap.size, 3, none⟩) SZ).trans p3
          have r4 := (AZ.cell (p := ⟨w.heap.size, 4, none⟩) SZ).trans p4
          have DZ2 := DZ.trans (AZ.mono (Nat.le_of_lt SZ))
          generalize (Zw.alloc (.cells #[.int .i64 v0, .int .i64 v1, .int .i64 v2, .int .i64 v3, .int .i64 v4] 25)).drew = Zw2 at r0 r1 r2 r3 r4 DZ2 ⊢
          exact bodyPost_ret (v := .tuple #[.agg #[.int .i64 0, .int .i64 0, .int .i64 0, .int .i64 0, .int .i64 0], .bool false]) (by simp [results, Tryd.results8, go_sem, r0, r1, r2, r3, r4]) rfl ⟨rfl, DZ2⟩
  · have c5' : ((P.length : Int) != 10) = true := by simp; omega
    have hn : res = none := by
      cases hr : res with
      | none => rfl
      | some x =>
        obtain ⟨h1, h2⟩ := NOP.out x hr
        have := (wat_parts HF.out h1 h2 HQ1.out).1
        rw [HQ2.out, List.length_map] at this
        exact absurd this c5
    subst hn
    go_wp2_with fail
    obtain ⟨Zw, hZ⟩ : ∃ Z, Z = (((((W1.setCell ⟨w.heap.size, 0, none⟩ (.int .i64 0)).setCell ⟨w.heap.size, 1, none⟩ (.int .i64 0)).setCell ⟨w.heap.size, 2, none⟩ (.int .i64 0)).setCell ⟨w.heap.size, 3, none⟩ (.int .i64 0)).setCell ⟨w.heap.size, 4, none⟩ (.int .i64 0)) := ⟨_, rfl⟩
    obtain ⟨p0, p1, p2, p3, p4, DZ, SZ⟩ := fiveW E1 _ _ _ _ _ Zw hZ
    rw [← hZ]
    clear hZ
    have AZ : Below Zw.heap.size Zw (Zw.alloc (.cells #[.string ⟨#[114, 97, 105, 110]⟩, .string ⟨#[115, 101, 101, 112]⟩, .string ⟨#[100, 114, 121]⟩, .string ⟨#[112, 117, 109, 112]⟩, .string ⟨#[115, 108, 117, 105, 99, 101]⟩] 9)) := Below.alloc (Below.refl _ _) (Nat.le_refl _) _
    have r0 := (AZ.cell (p := ⟨w.heap.size, 0, none⟩) SZ).trans p0
    have r1 := (AZ.cell (p := ⟨w.heap.size, 1, none⟩) SZ).trans p1
    have r2 := (AZ.cell (p := ⟨w.heap.size, 2, none⟩) SZ).trans p2
    have r3 := (AZ.cell (p := ⟨w.heap.size, 3, none⟩) SZ).trans p3
    have r4 := (AZ.cell (p := ⟨w.heap.size, 4, none⟩) SZ).trans p4
    have DZ2 := DZ.trans (AZ.mono (Nat.le_of_lt SZ))
    generalize Zw.alloc (.cells #[.string ⟨#[114, 97, 105, 110]⟩, .string ⟨#[115, 101, 101, 112]⟩, .string ⟨#[100, 114, 121]⟩, .string ⟨#[112, 117, 109, 112]⟩, .string ⟨#[115, 108, 117, 105, 99, 101]⟩] 9) = Zw2 at r0 r1 r2 r3 r4 DZ2 ⊢
    exact bodyPost_ret (v := .tuple #[.agg #[.int .i64 0, .int .i64 0, .int .i64 0, .int .i64 0, .int .i64 0], .bool false]) (by simp [results, Tryd.results8, go_sem, r0, r1, r2, r3, r4]) rfl ⟨rfl, DZ2⟩


end Go.Proofs.YtfpfmfhhcgafcaaDoor
