/- ReadWater of the program. -/
import Derived.Test.YtfpfmfhhcgafcaaDoorWaS
import Derived.Test.YtfpfmfhhcgafcaaDoorRNum
import Derived.Test.YtfpfmfhhcgafcaaDoorCWaterText
namespace Go.Proofs.YtfpfmfhhcgafcaaDoor
open Go.RowKit

theorem wT_list (a b c d e : Int) : (wT a b c d e).data.toList = wL a b c d e := by
  unfold wT wL wD ptsW kwW
  simp [ByteArray.data_append, Array.toList_append, joinL]
theorem wt_any (a b c d e : Int) (w : World) (hpow : PowTab w) :
    Calls Tryd.prog 7 #[.agg #[.int .i64 a, .int .i64 b, .int .i64 c, .int .i64 d, .int .i64 e]] w fun x w' => x = .returned (.string (r0_WaterText a b c d e)) ∧ Below w.heap.size w w' := by
  by_cases h : waOk a b c d e
  · rw [show r0_WaterText a b c d e = wT a b c d e from if_pos h]
    exact wtimpl a b c d e w hpow h _ rfl
  · rw [show r0_WaterText a b c d e = ⟨#[]⟩ from if_neg h]
    have HV := Lib.hid (show false = decide (waOk a b c d e) from (decide_eq_false h).symm)
    clear h
    go_enter Tryd.func7, Tryd.ntmps7
    go_wp2_with (go_at_call 13; refine (waI_any _ _ _ _ _ _ _ HV.out).mono ?_; rintro e0 W0 ⟨rfl, b0⟩)
    go_ret
    exact ⟨rfl, (by repeat (first | assumption | exact Below.refl _ _ | (refine Below.trans ?_ (b0.mono (by first | omega | (simp; done) | (simp; omega)))) | (refine Below.setCell ?_ (by first | omega | (simp; done) | (simp; omega)) _) | apply below_drewN | apply Below.drew | (refine Below.alloc ?_ (by first | omega | (simp; done) | (simp; omega)) _)))⟩
theorem words_szW {s : ByteArray} {k : Nat} (hk : k < (wordsOf s).length) : ((wordsOf s).getD k ⟨#[]⟩).size ≤ s.size := by
  refine words_sz s _ ?_
  rw [List.getD_eq_getElem?_getD, List.getElem?_eq_getElem hk]
  exact List.getElem_mem _
theorem take_mapW (g : ByteArray → Int) (L : List ByteArray) {k : Nat} (h : k < L.length) : (L.take (k + 1)).map g = (L.take k).map g ++ [g (L.getD k ⟨#[]⟩)] := by
  rw [List.take_add_one, List.getElem?_eq_getElem h, List.map_append, List.getD_eq_getElem?_getD, List.getElem?_eq_getElem h]
  rfl
theorem own_capW {w : World} {base n size : Nat} {e : TypeId} {v : Value} {xs : List Value} (h : w.ownsRow base e size v n xs) : ∀ A c, v = .slice A n c → n ≤ c := by
  intro A c hv
  rcases h.2 with ⟨h1, h2⟩ | ⟨g, cap, cur, h1, _, _, hnc, _⟩
  · rw [h1] at hv
    injection hv with _ e2 e3
    omega
  · rw [h1] at hv
    injection hv with _ _ e3
    omega
theorem filt_lenW : ∀ (L : List (List UInt8)) (p : List UInt8 → Bool), (L.filter p).length ≤ L.length := fun L p => List.length_filter_le _ _

set_option maxRecDepth 100000 in
set_option maxHeartbeats 1600000 in
theorem rdNums_t (f : List UInt8 → Option Int) (hf : ∀ l n, f l = some n ↔ DecOf l n) (s : ByteArray) (w : World) (hs : s.size ≤ 1048576) (hwl : (wordsOf s).length ≤ 1048576) (env : NumEnv w) :
    Calls Tryd.prog 17 #[.string s, .func (.func 18) #[] #[]] w fun e w' => ∃ B d, e = .returned (.slice B (wordsOf s).length d) ∧ Below w.heap.size w w' ∧ Wr w' w.heap.size B (wordsOf s).length ((wordsOf s).map (fun p => (f p.data.toList).getD 0)) := by
  have HE := Lib.hid env
  have HF := Lib.hid hf
  have HW := Lib.hid (fun (k : Nat) (hk : k < (wordsOf s).length) => words_szW hk)
  have HSW := Lib.hid (fun W => implC_SplitWords s W hs)
  clear env hf
  generalize wordsOf s = L at *
  obtain ⟨g, hg⟩ : ∃ g : ByteArray → Int, g = fun p => (f p.data.toList).getD 0 := ⟨_, rfl⟩
  rw [← hg]
  have HT := Lib.hid (fun (k : Nat) (hk : k < L.length) => take_mapW g L hk)
  have HN := Lib.hid (show ∀ (p : ByteArray), p.size ≤ 1048576 → ∀ (W : World), NumEnv W → Calls Tryd.prog 18 #[.string p] W fun e w' => e = .returned (.int .i64 (g p)) ∧ Below W.heap.size W w' from fun p hp W hW => by
    rw [hg]
    exact rnum_all (fun W hW => num_impl p W hp hW _ (HF.out _)) W hW)
  clear hg HF
  go_enter Tryd.func17, Tryd.ntmps17
  go_wp2_with (first | (go_at_call 24; refine (HSW.out _).mono ?_; rintro e1 W1 ⟨A, c, rfl, b1, hw1⟩; have HRD1 := Lib.hid hw1.rd; have s1 := b1.size; clear hw1))
  go_loopw [5, 7, 11] (fun v _ i wr => ∃ k : Nat, k ≤ L.length ∧ i = .int .i64 (k : Int) ∧ Below W1.heap.size W1 wr ∧ W1.heap.size ≤ wr.heap.size ∧ wr.ownsRow W1.heap.size 2 1 v k (((L.take k).map g).map (Value.int .i64))) (fun _ _ i _ => L.length - (intOf i).toNat)
  case atStart => exact ⟨0, by omega, rfl, Below.refl _ _, Nat.le_refl _, World.ownsRow_nil _ _ _ _⟩
  case round =>
    obtain ⟨k, hk, rfl, hb, hz, hown⟩ := hrel
    have d0 : Below w.heap.size w wr := b1.trans (hb.mono s1)
    by_cases hlt : k < L.length
    · obtain ⟨ab, o, rfl, hbB, hc⟩ := HRD1.out.2 (by omega)
      have c1 := (hb.cell (p := ⟨ab, o + k, none⟩) hbB).trans (hc k hlt)
      clear hc
      have hsz := HW.out k hlt
      have HS := Lib.hid (HT.out k hlt)
      obtain ⟨p, hp⟩ : ∃ p, p = L.getD k ⟨#[]⟩ := ⟨_, rfl⟩
      rw [← hp] at c1 hsz HS
      clear hp
      have HP := Lib.hid (fun (W : World) (hW : NumEnv W) => HN.out p (by omega) W hW)
      generalize g p = x at HS HP
      go_wp2_with (first | (go_at_call 18; refine (HP.out _ (HE.out.below d0)).mono ?_; rintro e2 W2 ⟨rfl, b2⟩; have s2 := b2.size; have hown2 := owns_below hown b2) | (at_builtin; refine wpl_app1 rfl _ _ rfl _ _ _ _ _ _ rfl (by exact hown2) rfl (by omega) (by omega) ?_; intro v1 w1 hown1 hb1 hz1))
      go_roundw
      case rel => exact ⟨k + 1, by omega, by go_num, (hb.trans (b2.mono hz)).trans hb1, by omega, by rw [HS.out]; simpa using hown1⟩
      case measure => simp [intOf]; omega
    · obtain rfl : k = L.length := by omega
      rw [List.take_length] at hown
      obtain ⟨B, d, rfl, hw⟩ := own_wr hown
      have HWR := Lib.hid (hw.lower s1)
      clear hown hw
      go_wp2
      go_ret
      exact ⟨B, d, rfl, d0, HWR.out⟩

set_option maxRecDepth 100000 in
set_option maxHeartbeats 3200000 in
theorem wr_impl (f : List UInt8 → Option Int) (hf : ∀ l n, f l = some n ↔ DecOf l n) (s : ByteArray) (w : World) (hs : s.size ≤ 1048576) (hwl : (wordsOf s).length ≤ 1048576) (env : NumEnv w) (res : Option RWater) (hres : ∀ x : RWater, res = some x ↔ waR x ∧ s.data.toList = wL x.f0 x.f1 x.f2 x.f3 x.f4) :
    Calls Tryd.prog 9 #[.string s] w fun e w' => e = .returned (.tuple #[.agg #[.int .i64 (res.getD zWater).f0, .int .i64 (res.getD zWater).f1, .int .i64 (res.getD zWater).f2, .int .i64 (res.getD zWater).f3, .int .i64 (res.getD zWater).f4], .bool res.isSome]) ∧ Below w.heap.size w w' := by
  have HE := Lib.hid env
  have HF := Lib.hid hf
  have NOP := Lib.hid (show ∀ x : RWater, res = some x → waR x ∧ s.data.toList = wL x.f0 x.f1 x.f2 x.f3 x.f4 from fun x h => (hres x).1 h)
  have YES0 := Lib.hid (show ∀ x : RWater, waR x → s.data.toList = wL x.f0 x.f1 x.f2 x.f3 x.f4 → res = some x from fun x h g => (hres x).2 ⟨h, g⟩)
  have Z0 : Below w.heap.size w (w.alloc (.cells #[.int .i64 0, .int .i64 0, .int .i64 0, .int .i64 0, .int .i64 0] 25)) := Below.alloc (Below.refl _ _) (Nat.le_refl _) _
  clear env hres
  obtain ⟨P, hP⟩ : ∃ P, P = wordsOf s := ⟨_, rfl⟩
  have HP := Lib.hid hP
  have RN := Lib.hid (fun (W : World) (hW : NumEnv W) => rdNums_t f hf s W hs hwl hW)
  rw [← hP] at RN
  clear hP hwl
  go_enter Tryd.func9, Tryd.ntmps9
  go_wp2_with fail
  refine (RN.out _ (HE.out.below Z0)).mono ?_
  rintro q1 W1 ⟨A, cc, rfl, b1, hw⟩
  have E1 : Below (w.heap.size + 1) (w.alloc (.cells #[.int .i64 0, .int .i64 0, .int .i64 0, .int .i64 0, .int .i64 0] 25)) W1 := b1.mono (by first | omega | (simp; done) | (simp; omega))
  clear b1
  obtain ⟨z0, z1, z2, z3, z4, zs⟩ := zb5 E1
  have zf0 := zbF E1 0 (by omega)
  have zf1 := zbF E1 1 (by omega)
  have zf2 := zbF E1 2 (by omega)
  have zf3 := zbF E1 3 (by omega)
  have zf4 := zbF E1 4 (by omega)
  have HRd := Lib.hid hw.rd
  clear hw
  by_cases c5 : P.length = 10
  · obtain ⟨bb, oo, rfl, hbb1, hc⟩ := HRd.out.2 (by omega)
    have HG := Lib.hid (show ∀ k, k < 10 → (P.map (fun p => (f p.data.toList).getD 0)).getD k 0 = (f (P.getD k ⟨#[]⟩).data.toList).getD 0 from fun k hk => by
      simp [List.getD_eq_getElem?_getD, List.getElem?_map, show k < P.length by omega])
    have a0 := hc 1 (by omega)
    have a1 := hc 3 (by omega)
    have a2 := hc 5 (by omega)
    have a3 := hc 7 (by omega)
    have a4 := hc 9 (by omega)
    rw [HG.out _ (by omega)] at a0 a1 a2 a3 a4
    clear hc HRd
    obtain ⟨v0, h0⟩ : ∃ v, v = (f (P.getD 1 ⟨#[]⟩).data.toList).getD 0 := ⟨_, rfl⟩
    obtain ⟨v1, h1⟩ : ∃ v, v = (f (P.getD 3 ⟨#[]⟩).data.toList).getD 0 := ⟨_, rfl⟩
    obtain ⟨v2, h2⟩ : ∃ v, v = (f (P.getD 5 ⟨#[]⟩).data.toList).getD 0 := ⟨_, rfl⟩
    obtain ⟨v3, h3⟩ : ∃ v, v = (f (P.getD 7 ⟨#[]⟩).data.toList).getD 0 := ⟨_, rfl⟩
    obtain ⟨v4, h4⟩ : ∃ v, v = (f (P.getD 9 ⟨#[]⟩).data.toList).getD 0 := ⟨_, rfl⟩
    rw [← h0] at a0
    rw [← h1] at a1
    rw [← h2] at a2
    rw [← h3] at a3
    rw [← h4] at a4
    obtain ⟨t, ht⟩ : ∃ t, t = r0_WaterText v0 v1 v2 v3 v4 := ⟨_, rfl⟩
    have BT := Lib.hid (show ∀ W : World, PowTab W → Calls Tryd.prog 7 #[.agg #[.int .i64 v0, .int .i64 v1, .int .i64 v2, .int .i64 v3, .int .i64 v4]] W fun e w' => e = .returned (.string t) ∧ Below W.heap.size W w' from fun W hW => by rw [ht]; exact wt_any v0 v1 v2 v3 v4 W hW)
    have YES : t = s → res = some ⟨v0, v1, v2, v3, v4⟩ := fun e => by
      rw [ht] at e
      by_cases h : waOk v0 v1 v2 v3 v4
      · refine YES0.out ⟨v0, v1, v2, v3, v4⟩ h ?_
        rw [← e, show r0_WaterText v0 v1 v2 v3 v4 = wT v0 v1 v2 v3 v4 from if_pos h, wT_list]
      · rw [show r0_WaterText v0 v1 v2 v3 v4 = ⟨#[]⟩ from if_neg h] at e
        have h9 := wat_nil (s := s) (by rw [← e])
        rw [← HP.out] at h9
        omega
    have NO : t ≠ s → res = none := fun e => by
      cases hr : res with
      | none => rfl
      | some x =>
        obtain ⟨g1, g2⟩ := NOP.out x hr
        have hw := HP.out.trans (wat_words g1 g2)
        have J : ∀ n, In9 n → (f (mkB (Lib.itoa n)).data.toList).getD 0 = n := fun n hn => by
          rw [(HF.out _ n).2 (by simpa [mkB] using dec_in9 hn)]; rfl
        have k := g1
        obtain ⟨k0, k1, k2, k3, k4⟩ := k
        rw [hw] at h0 h1 h2 h3 h4
        have e0 : v0 = x.f0 := h0.trans (J _ k0)
        have e1 : v1 = x.f1 := h1.trans (J _ k1)
        have e2 : v2 = x.f2 := h2.trans (J _ k2)
        have e3 : v3 = x.f3 := h3.trans (J _ k3)
        have e4 : v4 = x.f4 := h4.trans (J _ k4)
        refine absurd (bytes_ext ?_) e
        rw [ht, e0, e1, e2, e3, e4, show r0_WaterText x.f0 x.f1 x.f2 x.f3 x.f4 = wT x.f0 x.f1 x.f2 x.f3 x.f4 from if_pos g1, wT_list, g2]
    clear h0 h1 h2 h3 h4 ht HG
    have hPl : (P.length : Int) = 10 := by omega
    have c6 : ((P.length : Int) != 10) = false := by simp; omega
    go_wp2_with fail
    go_region
    go_wp2_with fail
    have A5 : Below W1.heap.size W1 ((W1.alloc (.cells #[.int .i64 v0, .int .i64 v1, .int .i64 v2, .int .i64 v3, .int .i64 v4] 25)).drew) := Below.drew (Below.alloc (Below.refl _ _) (Nat.le_refl _) _)
    have E5 : Below (w.heap.size + 1) (w.alloc (.cells #[.int .i64 0, .int .i64 0, .int .i64 0, .int .i64 0, .int .i64 0] 25)) ((W1.alloc (.cells #[.int .i64 v0, .int .i64 v1, .int .i64 v2, .int .i64 v3, .int .i64 v4] 25)).drew) := E1.trans (A5.mono (by omega))
    have X5 := zbDW E5
    have sA : W1.heap.size < ((W1.alloc (.cells #[.int .i64 v0, .int .i64 v1, .int .i64 v2, .int .i64 v3, .int .i64 v4] 25)).drew).heap.size := by show W1.heap.size < (W1.alloc (.cells #[.int .i64 v0, .int .i64 v1, .int .i64 v2, .int .i64 v3, .int .i64 v4] 25)).heap.size; simp
    refine (BT.out _ (HE.out.below X5).pow).mono ?_
    rintro e6 W6 ⟨rfl, b6⟩
    have E6 : Below (w.heap.size + 1) (w.alloc (.cells #[.int .i64 0, .int .i64 0, .int .i64 0, .int .i64 0, .int .i64 0] 25)) W6 := E5.trans (b6.mono (by have := E5.size; simp at this; omega))
    have y0 := (b6.cell (p := ⟨W1.heap.size, 0, none⟩) sA).trans (show ((W1.alloc (.cells #[.int .i64 v0, .int .i64 v1, .int .i64 v2, .int .i64 v3, .int .i64 v4] 25)).drew).cell? ⟨W1.heap.size, 0, none⟩ = some (.int .i64 v0) by show (W1.alloc (.cells #[.int .i64 v0, .int .i64 v1, .int .i64 v2, .int .i64 v3, .int .i64 v4] 25)).cell? _ = _; first | (simp; done) | go_simp)
    have y1 := (b6.cell (p := ⟨W1.heap.size, 1, none⟩) sA).trans (show ((W1.alloc (.cells #[.int .i64 v0, .int .i64 v1, .int .i64 v2, .int .i64 v3, .int .i64 v4] 25)).drew).cell? ⟨W1.heap.size, 1, none⟩ = some (.int .i64 v1) by show (W1.alloc (.cells #[.int .i64 v0, .int .i64 v1, .int .i64 v2, .int .i64 v3, .int .i64 v4] 25)).cell? _ = _; first | (simp; done) | go_simp)
    have y2 := (b6.cell (p := ⟨W1.heap.size, 2, none⟩) sA).trans (show ((W1.alloc (.cells #[.int .i64 v0, .int .i64 v1, .int .i64 v2, .int .i64 v3, .int .i64 v4] 25)).drew).cell? ⟨W1.heap.size, 2, none⟩ = some (.int .i64 v2) by show (W1.alloc (.cells #[.int .i64 v0, .int .i64 v1, .int .i64 v2, .int .i64 v3, .int .i64 v4] 25)).cell? _ = _; first | (simp; done) | go_simp)
    have y3 := (b6.cell (p := ⟨W1.heap.size, 3, none⟩) sA).trans (show ((W1.alloc (.cells #[.int .i64 v0, .int .i64 v1, .int .i64 v2, .int .i64 v3, .int .i64 v4] 25)).drew).cell? ⟨W1.heap.size, 3, none⟩ = some (.int .i64 v3) by show (W1.alloc (.cells #[.int .i64 v0, .int .i64 v1, .int .i64 v2, .int .i64 v3, .int .i64 v4] 25)).cell? _ = _; first | (simp; done) | go_simp)
    have y4 := (b6.cell (p := ⟨W1.heap.size, 4, none⟩) sA).trans (show ((W1.alloc (.cells #[.int .i64 v0, .int .i64 v1, .int .i64 v2, .int .i64 v3, .int .i64 v4] 25)).drew).cell? ⟨W1.heap.size, 4, none⟩ = some (.int .i64 v4) by show (W1.alloc (.cells #[.int .i64 v0, .int .i64 v1, .int .i64 v2, .int .i64 v3, .int .i64 v4] 25)).cell? _ = _; first | (simp; done) | go_simp)
    clear z0 z1 z2 z3 z4 zs zf0 zf1 zf2 zf3 zf4
    obtain ⟨z0, z1, z2, z3, z4, zs⟩ := zb5 E6
    have zf0 := zbF E6 0 (by omega)
    have zf1 := zbF E6 1 (by omega)
    have zf2 := zbF E6 2 (by omega)
    have zf3 := zbF E6 3 (by omega)
    have zf4 := zbF E6 4 (by omega)
    clear b6 E5 X5 A5 sA Z0
    by_cases hts : t = s
    · have hn := YES hts
      have g1 : (t.toList == s.toList) = true := strTW hts
      subst hn
      clear YES NO hts NOP YES0
      go_wp2
      obtain ⟨Zw, hZ⟩ : ∃ Z, Z = (((((W6.setCell ⟨w.heap.size, 0, none⟩ (.int .i64 v0)).setCell ⟨w.heap.size, 1, none⟩ (.int .i64 v1)).setCell ⟨w.heap.size, 2, none⟩ (.int .i64 v2)).setCell ⟨w.heap.size, 3, none⟩ (.int .i64 v3)).setCell ⟨w.heap.size, 4, none⟩ (.int .i64 v4)) := ⟨_, rfl⟩
      obtain ⟨p0, p1, p2, p3, p4, DZ, SZ⟩ := fiveW E6 _ _ _ _ _ Zw hZ
      rw [← hZ]
      clear hZ
      exact bodyPost_ret (v := .tuple #[.agg #[.int .i64 v0, .int .i64 v1, .int .i64 v2, .int .i64 v3, .int .i64 v4], .bool true]) (by simp [results, Tryd.results9, go_sem, p0, p1, p2, p3, p4]) rfl ⟨rfl, DZ⟩
    · have hn := NO hts
      subst hn
      have g1 : (t.toList == s.toList) = false := strFW hts
      clear YES NO hts NOP YES0
      go_wp2
      obtain ⟨Zw, hZ⟩ : ∃ Z, Z = (((((W6.setCell ⟨w.heap.size, 0, none⟩ (.int .i64 0)).setCell ⟨w.heap.size, 1, none⟩ (.int .i64 0)).setCell ⟨w.heap.size, 2, none⟩ (.int .i64 0)).setCell ⟨w.heap.size, 3, none⟩ (.int .i64 0)).setCell ⟨w.heap.size, 4, none⟩ (.int .i64 0)) := ⟨_, rfl⟩
      obtain ⟨p0, p1, p2, p3, p4, DZ, SZ⟩ := fiveW E6 _ _ _ _ _ Zw hZ
      rw [← hZ]
      clear hZ
      exact bodyPost_ret (v := .tuple #[.agg #[.int .i64 0, .int .i64 0, .int .i64 0, .int .i64 0, .int .i64 0], .bool false]) (by simp [results, Tryd.results9, go_sem, p0, p1, p2, p3, p4]) rfl ⟨rfl, DZ⟩
  · have c5' : ((P.length : Int) != 10) = true := by simp; omega
    have hn : res = none := by
      cases hr : res with
      | none => rfl
      | some x =>
        obtain ⟨g1, g2⟩ := NOP.out x hr
        exact absurd (by rw [HP.out, wat_words g1 g2]; rfl) c5
    subst hn
    clear NOP YES0
    go_wp2_with fail
    obtain ⟨Zw, hZ⟩ : ∃ Z, Z = (((((W1.setCell ⟨w.heap.size, 0, none⟩ (.int .i64 0)).setCell ⟨w.heap.size, 1, none⟩ (.int .i64 0)).setCell ⟨w.heap.size, 2, none⟩ (.int .i64 0)).setCell ⟨w.heap.size, 3, none⟩ (.int .i64 0)).setCell ⟨w.heap.size, 4, none⟩ (.int .i64 0)) := ⟨_, rfl⟩
    obtain ⟨p0, p1, p2, p3, p4, DZ, SZ⟩ := fiveW E1 _ _ _ _ _ Zw hZ
    rw [← hZ]
    clear hZ
    exact bodyPost_ret (v := .tuple #[.agg #[.int .i64 0, .int .i64 0, .int .i64 0, .int .i64 0, .int .i64 0], .bool false]) (by simp [results, Tryd.results9, go_sem, p0, p1, p2, p3, p4]) rfl ⟨rfl, DZ⟩

end Go.Proofs.YtfpfmfhhcgafcaaDoor
