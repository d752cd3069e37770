/- ReadDike of the program. -/
import Derived.Test.YtodbhcifibgocabDoorRdP
import Derived.Test.YtodbhcifibgocabDoorNumI
import Derived.Test.YtodbhcifibgocabDoorOwnQ
namespace Go.Proofs.YtodbhcifibgocabDoor
open Go.RowKit

theorem cut_szD (l : List UInt8) : (Lib.cut l [64]).1.length ≤ l.length ∧ (Lib.cut l [64]).2.1.length ≤ l.length := by
  rcases first_or 64 l with ⟨x, y, rfl, hx⟩ | hn
  · rw [cut_app 64 x y hx]; simp; omega
  · rw [cut_no 64 l hn]; simp
/-- what the readers of numbers want of the world -/
structure DkEnv (w : World) : Prop where
  num : NumEnv w
  ml : ∃ m, w.cell? ⟨1, 0, none⟩ = some (.int .i64 m)
  lt : 1 < w.heap.size
theorem DkEnv.below {w w' : World} (h : DkEnv w) (hb : Below w.heap.size w w') : DkEnv w' := by
  obtain ⟨m, hm⟩ := h.ml
  exact ⟨h.num.below hb, ⟨m, (hb.cell (p := ⟨1, 0, none⟩) h.lt).trans hm⟩, Nat.lt_of_lt_of_le h.lt hb.size⟩

set_option maxHeartbeats 800000 in
theorem readPair_t (s : ByteArray) (w : World) (hs : s.size ≤ 1048576) (env : DkEnv w) :
    Calls Tryd.prog 24 #[.string s, .string ⟨#[64]⟩] w fun e w' => e = .returned (.tuple #[.int .i64 (rp s).f0, .int .i64 (rp s).f1]) ∧ Below w.heap.size w w' := by
  have HE := Lib.hid env.num
  obtain ⟨ml, hml⟩ := env.ml
  have HM := Lib.hid hml
  obtain ⟨A, hA⟩ : ∃ A : ByteArray, A = ⟨(Lib.cut s.data.toList (ByteArray.mk #[64]).data.toList).1.toArray⟩ := ⟨_, rfl⟩
  obtain ⟨B, hB⟩ : ∃ B : ByteArray, B = ⟨(Lib.cut s.data.toList (ByteArray.mk #[64]).data.toList).2.1.toArray⟩ := ⟨_, rfl⟩
  obtain ⟨cu, hcu⟩ : ∃ cu : Bool, cu = (Lib.cut s.data.toList (ByteArray.mk #[64]).data.toList).2.2 := ⟨_, rfl⟩
  have hl : s.data.toList.length = s.size := rfl
  obtain ⟨hAs, hBs⟩ := cut_szD s.data.toList
  have hAs' : A.size ≤ 1048576 := by rw [hA]; show (Lib.cut s.data.toList [64]).1.length ≤ 1048576; omega
  have hBs' : B.size ≤ 1048576 := by rw [hB]; show (Lib.cut s.data.toList [64]).2.1.length ≤ 1048576; omega
  have CUT : ∀ W : World, W.cell? ⟨1, 0, none⟩ = some (.int .i64 ml) → Calls Tryd.prog 37 #[.string s, .string ⟨#[64]⟩] W fun e w' => e = .returned (.tuple #[.string A, .string B, .bool cu]) ∧ ∃ n, w' = W.drewN n := fun W hW => by
    rw [hA, hB, hcu]
    exact Tryd.strings_Cut s ⟨#[64]⟩ ml W (by omega) hW
  have HCUT := Lib.hid CUT
  have e0 : (rp s).f0 = (numR A.data.toList).getD 0 := by
    show numV _ = _
    rw [hA]
    simp only [List.toList_toArray]
    rfl
  have e1 : (rp s).f1 = (numR B.data.toList).getD 0 := by
    show numV _ = _
    rw [hB]
    simp only [List.toList_toArray]
    rfl
  have NA := Lib.hid (fun (W : World) (hW : NumEnv W) => num_impl A W hAs' hW _ (numR_iff A.data.toList))
  have NB := Lib.hid (fun (W : World) (hW : NumEnv W) => num_impl B W hBs' hW _ (numR_iff B.data.toList))
  rw [e0, e1]
  generalize (numR A.data.toList).getD 0 = va at *
  generalize (numR A.data.toList).isSome = ba at *
  generalize (numR B.data.toList).getD 0 = vb at *
  generalize (numR B.data.toList).isSome = bb at *
  clear hA hB hcu CUT env hml hl hAs hBs e0 e1
  go_enter Tryd.func24, Tryd.ntmps24
  go_wp2_with fail
  refine (HCUT.out _ HM.out).mono ?_
  rintro q1 w1 ⟨rfl, nd, rfl⟩
  go_wp2_with fail
  refine (NA.out _ (HE.out.below (by repeat (first | assumption | exact Below.refl _ _ | (refine Below.setCell ?_ (by first | omega | (simp; done) | (simp; omega)) _) | apply below_drewN | apply Below.drew | (refine Below.alloc ?_ (by first | omega | (simp; done) | (simp; omega)) _))))).mono ?_
  rintro q2 w2 ⟨rfl, b2⟩
  have d2 : Below w.heap.size w w2 := (by repeat (first | assumption | exact Below.refl _ _ | (refine Below.trans ?_ (b2.mono (by first | omega | (simp; done) | (simp; omega)))) | (refine Below.setCell ?_ (by first | omega | (simp; done) | (simp; omega)) _) | apply below_drewN | apply Below.drew | (refine Below.alloc ?_ (by first | omega | (simp; done) | (simp; omega)) _)))
  go_wp2_with fail
  refine (NB.out _ (HE.out.below d2)).mono ?_
  rintro q3 w3 ⟨rfl, b3⟩
  go_wp2
  go_ret2
  exact ⟨rfl, d2.trans (b3.mono d2.size)⟩

theorem words_sz2 {s : ByteArray} {k : Nat} (hk : k < (wordsOf s).length) : ((wordsOf s).getD k ⟨#[]⟩).size ≤ s.size := by
  refine words_sz s _ ?_
  rw [List.getD_eq_getElem?_getD, List.getElem?_eq_getElem hk]
  exact List.getElem_mem _
theorem take_map (L : List ByteArray) {k : Nat} (h : k < L.length) : (L.take (k + 1)).map rp = (L.take k).map rp ++ [rp (L.getD k ⟨#[]⟩)] := by
  rw [List.take_add_one, List.getElem?_eq_getElem h, List.map_append, List.getD_eq_getElem?_getD, List.getElem?_eq_getElem h]
  rfl
theorem take_map_len (L : List ByteArray) {k : Nat} (h : k ≤ L.length) : ((L.take k).map rp).length = k := by rw [List.length_map, List.length_take]; omega

set_option maxRecDepth 100000 in
set_option maxHeartbeats 1600000 in
theorem readDike_impl (s : ByteArray) (w : World) (hs : s.size ≤ 1048576) (env : DkEnv w) :
    Calls Tryd.prog 11 #[.string s] w fun e w' => ∃ B d, e = .returned (.tuple #[.slice B ((rdRes s).getD []).length d, .bool (rdRes s).isSome]) ∧ Below w.heap.size w w' ∧ Wr_Section w' w.heap.size B ((rdRes s).getD []).length ((rdRes s).getD []) := by
  have HE := Lib.hid env
  have hwl := words_le s
  have HW := Lib.hid (fun (k : Nat) (hk : k < (wordsOf s).length) => words_sz2 hk)
  have HT := Lib.hid (fun (k : Nat) (hk : k < (wordsOf s).length) => take_map (wordsOf s) hk)
  have HYES := Lib.hid (show DkOk (wordsOf s).length ((wordsOf s).map rp) → txN ((wordsOf s).map rp) (wordsOf s).length = s → rdRes s = some ((wordsOf s).map rp) from fun h1 h2 => (rd_iff _ _).2 ⟨by rw [List.length_map]; exact h1, by rw [List.length_map]; exact h2.symm⟩)
  have HNO := Lib.hid (show ¬ (DkOk (wordsOf s).length ((wordsOf s).map rp) ∧ txN ((wordsOf s).map rp) (wordsOf s).length = s) → rdRes s = none from fun h => by
    unfold rdRes
    rw [List.length_map, if_neg h])
  obtain ⟨R, hR⟩ : ∃ R, R = rdRes s := ⟨_, rfl⟩
  rw [← hR] at HYES HNO ⊢
  clear env hR
  go_enter Tryd.func11, Tryd.ntmps11
  go_wp2_with (first | (go_at_call 23; refine (implC_SplitWords s _ hs).mono ?_; rintro e1 W1 ⟨A, c, rfl, b1, hw1⟩; have HRD1 := Lib.hid hw1.rd; have s1 := b1.size; clear hw1))
  generalize hL : wordsOf s = L at *
  go_loopw [4, 6, 7, 8, 12] (fun v _ _ _ i wr => ∃ k : Nat, k ≤ L.length ∧ i = .int .i64 (k : Int) ∧ Below W1.heap.size W1 wr ∧ W1.heap.size ≤ wr.heap.size ∧ wr.ownsRow W1.heap.size 35 2 v k (csSection ((L.take k).map rp))) (fun _ _ _ _ i _ => L.length - (intOf i).toNat)
  case atStart => exact ⟨0, by omega, rfl, Below.refl _ _, Nat.le_refl _, World.ownsRow_nil _ _ _ _⟩
  case round =>
    obtain ⟨k, hk, rfl, hb, hz, hown⟩ := hrel
    have d0 : Below w.heap.size w wr := b1.trans (hb.mono s1)
    by_cases hlt : k < L.length
    · obtain ⟨ab, o, rfl, hbB, hc⟩ := HRD1.out.2 (by omega)
      have c1 := (hb.cell (p := ⟨ab, o + k, none⟩) hbB).trans (hc k hlt)
      clear hc
      have hsz := HW.out k hlt
      have HS := Lib.hid (HT.out k hlt)
      obtain ⟨p, hp⟩ : ∃ p, p = L.getD k ⟨#[]⟩ := ⟨_, rfl⟩
      rw [← hp] at c1 hsz HS
      clear hp
      have HP := Lib.hid (fun (W : World) (hW : DkEnv W) => readPair_t p W (by omega) hW)
      generalize rp p = x at HS HP
      obtain ⟨x0, x1⟩ := x
      go_wp2_with (first | (go_at_call 24; refine (HP.out _ (HE.out.below d0)).mono ?_; rintro e2 W2 ⟨rfl, b2⟩; have s2 := b2.size; have hown2 := owns_below hown b2) | (at_builtin; refine wplApp1S rfl _ _ rfl _ _ (by simp) _ _ _ ((L.take k).map rp) x0 x1 rfl (by exact hown2) rfl (by omega) (by omega) ?_; intro v1 w1 hown1 hb1 hz1))
      go_roundw
      case rel => exact ⟨k + 1, by omega, by go_num, (hb.trans (b2.mono hz)).trans hb1, by omega, by rw [HS.out]; exact hown1⟩
      case measure => simp [intOf]; omega
    · obtain rfl : k = L.length := by omega
      rw [List.take_length] at hown
      obtain ⟨B, d, rfl, hw⟩ := own_wrSection hown
      have hrd := Lib.hid hw.rd
      have HWR := Lib.hid (hw.lower s1)
      clear hown hw
      have hn : L.length ≤ 1048576 := by omega
      by_cases h : DkOk L.length (L.map rp)
      · have HV := Lib.hid h
        have er : r0_DikeText (L.map rp) = txN (L.map rp) L.length := by unfold r0_DikeText; rw [List.length_map, if_pos h]
        obtain ⟨T, hT⟩ : ∃ T, T = txN (L.map rp) L.length := ⟨_, rfl⟩
        have HDT := Lib.hid (fun (W : World) (hW : Rd_Section W W.heap.size B L.length (L.map rp)) (hp : PowTab W) => dikeText_t B L.length d (L.map rp) W hn hW hp)
        rw [er, ← hT] at HDT
        by_cases g : T = s
        · obtain rfl : R = some (L.map rp) := HYES.out h (hT ▸ g)
          have gt := strT g
          rw [g] at HDT
          clear h hT er
          go_wp2_with (first | (go_at_call 17; refine (validDike_any _ _ _ (L.map rp) _ hn hrd.out true ⟨fun _ => HV.out, fun _ => rfl⟩).mono ?_; rintro e3 W3 ⟨rfl, b3⟩; have s3 := b3.size) | (go_at_call 8; refine (HDT.out _ ((hrd.out.below b3).mono s3) (pow_below HE.out.num.pow (d0.trans (b3.mono d0.size)))).mono ?_; rintro e4 W4 ⟨rfl, b4⟩; have s4 := b4.size))
          go_ret2
          exact ⟨B, d, by simp, (d0.trans (b3.mono d0.size)).trans (b4.mono (by have := d0.size; omega)), by
            have h8 := (HWR.out.below b3).below b4
            simpa using h8⟩
        · obtain rfl : R = none := HNO.out (fun x => g (hT ▸ x.2))
          have gf := strF g
          clear h hT er
          go_wp2_with (first | (go_at_call 17; refine (validDike_any _ _ _ (L.map rp) _ hn hrd.out true ⟨fun _ => HV.out, fun _ => rfl⟩).mono ?_; rintro e3 W3 ⟨rfl, b3⟩; have s3 := b3.size) | (go_at_call 8; refine (HDT.out _ ((hrd.out.below b3).mono s3) (pow_below HE.out.num.pow (d0.trans (b3.mono d0.size)))).mono ?_; rintro e4 W4 ⟨rfl, b4⟩; have s4 := b4.size))
          go_ret2
          exact ⟨none, 0, rfl, (d0.trans (b3.mono d0.size)).trans (b4.mono (by have := d0.size; omega)), rfl, fun h => absurd h (by simp)⟩
      · have HV := Lib.hid h
        obtain rfl : R = none := HNO.out (fun x => h x.1)
        clear h
        go_wp2_with (first | (go_at_call 17; refine (validDike_any _ _ _ (L.map rp) _ hn hrd.out false ⟨fun h => by simp at h, fun h => absurd h HV.out⟩).mono ?_; rintro e3 W3 ⟨rfl, b3⟩; have s3 := b3.size))
        go_ret2
        exact ⟨none, 0, rfl, d0.trans (b3.mono d0.size), rfl, fun h => absurd h (by simp)⟩

end Go.Proofs.YtodbhcifibgocabDoor
