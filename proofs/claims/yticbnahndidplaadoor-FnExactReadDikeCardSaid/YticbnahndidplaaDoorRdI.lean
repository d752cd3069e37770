/- ReadDike of the program. -/
import Derived.Test.YticbnahndidplaaDoorRdP
import Derived.Test.YticbnahndidplaaDoorNumI
import Derived.Test.YticbnahndidplaaDoorOwnQ
import Derived.Test.YticbnahndidplaaDoorRNum
namespace Go.Proofs.YticbnahndidplaaDoor
open Go.RowKit

theorem cut_szD (l : List UInt8) : (Lib.cut l [64]).1.length ≤ l.length ∧ (Lib.cut l [64]).2.1.length ≤ l.length := by
  rcases first_or 64 l with ⟨x, y, rfl, hx⟩ | hn
  · rw [cut_app 64 x y hx]; simp; omega
  · rw [cut_no 64 l hn]; simp
/-- what the readers of numbers want of the world -/
structure DkEnv (w : World) : Prop where
  num : NumEnv w
  ml : ∃ m, w.cell? ⟨0, 0, none⟩ = some (.int .i64 m)
  lt : 0 < w.heap.size
theorem DkEnv.below {w w' : World} (h : DkEnv w) (hb : Below w.heap.size w w') : DkEnv w' := by
  obtain ⟨m, hm⟩ := h.ml
  exact ⟨h.num.below hb, ⟨m, (hb.cell (p := ⟨0, 0, none⟩) h.lt).trans hm⟩, Nat.lt_of_lt_of_le h.lt hb.size⟩

set_option maxHeartbeats 800000 in
theorem readPair_t (s : ByteArray) (w : World) (hs : s.size ≤ 1048576) (env : DkEnv w) :
    Calls Tryd.prog 37 #[.string s, .string ⟨#[64]⟩] w fun e w' => e = .returned (.tuple #[.int .i64 (rp s).f0, .int .i64 (rp s).f1]) ∧ Below w.heap.size w w' := by
  have HE := Lib.hid env.num
  obtain ⟨ml, hml⟩ := env.ml
  have HM := Lib.hid hml
  obtain ⟨A, hA⟩ : ∃ A : ByteArray, A = ⟨(Lib.cut s.data.toList (ByteArray.mk #[64]).data.toList).1.toArray⟩ := ⟨_, rfl⟩
  obtain ⟨B, hB⟩ : ∃ B : ByteArray, B = ⟨(Lib.cut s.data.toList (ByteArray.mk #[64]).data.toList).2.1.toArray⟩ := ⟨_, rfl⟩
  obtain ⟨cu, hcu⟩ : ∃ cu : Bool, cu = (Lib.cut s.data.toList (ByteArray.mk #[64]).data.toList).2.2 := ⟨_, rfl⟩
  have hl : s.data.toList.length = s.size := rfl
  obtain ⟨hAs, hBs⟩ := cut_szD s.data.toList
  have hAs' : A.size ≤ 1048576 := by rw [hA]; show (Lib.cut s.data.toList [64]).1.length ≤ 1048576; omega
  have hBs' : B.size ≤ 1048576 := by rw [hB]; show (Lib.cut s.data.toList [64]).2.1.length ≤ 1048576; omega
  have CUT : ∀ W : World, W.cell? ⟨0, 0, none⟩ = some (.int .i64 ml) → Calls Tryd.prog 56 #[.string s, .string ⟨#[64]⟩] W fun e w' => e = .returned (.tuple #[.string A, .string B, .bool cu]) ∧ ∃ n, w' = W.drewN n := fun W hW => by
    rw [hA, hB, hcu]
    exact Tryd.strings_Cut s ⟨#[64]⟩ ml W (by omega) hW
  have HCUT := Lib.hid CUT
  have e0 : (rp s).f0 = (numR A.data.toList).getD 0 := by
    show numV _ = _
    rw [hA]
    simp only [List.toList_toArray]
    rfl
  have e1 : (rp s).f1 = (numR B.data.toList).getD 0 := by
    show numV _ = _
    rw [hB]
    simp only [List.toList_toArray]
    rfl
  have NA := Lib.hid (rnum_all (fun (W : World) (hW : NumEnv W) => num_impl A W hAs' hW _ (numR_iff A.data.toList)))
  have NB := Lib.hid (rnum_all (fun (W : World) (hW : NumEnv W) => num_impl B W hBs' hW _ (numR_iff B.data.toList)))
  rw [e0, e1]
  generalize (numR A.data.toList).getD 0 = va at *
  generalize (numR B.data.toList).getD 0 = vb at *
  clear hA hB hcu CUT env hml hl hAs hBs e0 e1
  go_enter Tryd.func37, Tryd.ntmps37
  go_wp2_with fail
  refine (HCUT.out _ HM.out).mono ?_
  rintro q1 w1 ⟨rfl, nd, rfl⟩
  go_wp2_with fail
  refine (NA.out _ (HE.out.below (by repeat (first | assumption | exact Below.refl _ _ | (refine Below.setCell ?_ (by first | omega | (simp; done) | (simp; omega)) _) | apply below_drewN | apply Below.drew | (refine Below.alloc ?_ (by first | omega | (simp; done) | (simp; omega)) _))))).mono ?_
  rintro q2 w2 ⟨rfl, b2⟩
  have d2 : Below w.heap.size w w2 := (by repeat (first | assumption | exact Below.refl _ _ | (refine Below.trans ?_ (b2.mono (by first | omega | (simp; done) | (simp; omega)))) | (refine Below.setCell ?_ (by first | omega | (simp; done) | (simp; omega)) _) | apply below_drewN | apply Below.drew | (refine Below.alloc ?_ (by first | omega | (simp; done) | (simp; omega)) _)))
  go_wp2_with fail
  refine (NB.out _ (HE.out.below d2)).mono ?_
  rintro q3 w3 ⟨rfl, b3⟩
  go_wp2
  go_ret2
  exact ⟨rfl, d2.trans (b3.mono d2.size)⟩

theorem words_sz2 {s : ByteArray} {k : Nat} (hk : k < (wordsOf s).length) : ((wordsOf s).getD k ⟨#[]⟩).size ≤ s.size := by
  refine words_sz s _ ?_
  rw [List.getD_eq_getElem?_getD, List.getElem?_eq_getElem hk]
  exact List.getElem_mem _
theorem take_map (L : List ByteArray) {k : Nat} (h : k < L.length) : (L.take (k + 1)).map rp = (L.take k).map rp ++ [rp (L.getD k ⟨#[]⟩)] := by
  rw [List.take_add_one, List.getElem?_eq_getElem h, List.map_append, List.getD_eq_getElem?_getD, List.getElem?_eq_getElem h]
  rfl
theorem take_map_len (L : List ByteArray) {k : Nat} (h : k ≤ L.length) : ((L.take k).map rp).length = k := by rw [List.length_map, List.length_take]; omega

theorem emptyF {s : ByteArray} (h : ¬ s = ⟨#[]⟩) : s.toList.isEmpty = false := by
  cases hh : s.toList.isEmpty
  · rfl
  · refine absurd ?_ h
    rw [List.isEmpty_iff, ByteArray.toList_eq] at hh
    exact bytes_ext hh
theorem own_cap {w : World} {base n size : Nat} {e : TypeId} {v : Value} {xs : List Value} (h : w.ownsRow base e size v n xs) : ∀ A c, v = .slice A n c → n ≤ c := by
  intro A c hv
  rcases h.2 with ⟨h1, h2⟩ | ⟨g, cap, cur, h1, _, _, hnc, _⟩
  · rw [h1] at hv
    injection hv with _ e2 e3
    omega
  · rw [h1] at hv
    injection hv with _ _ e3
    omega

set_option maxHeartbeats 800000 in
theorem rdOne_t (s : ByteArray) (w : World) (hs : s.size ≤ 1048576) (env : DkEnv w) :
    Calls Tryd.prog 43 #[.string s] w fun e w' => e = .returned (.agg #[.int .i64 (rp s).f0, .int .i64 (rp s).f1]) ∧ Below w.heap.size w w' := by
  have HE := Lib.hid env
  have HP := Lib.hid (fun (W : World) (hW : DkEnv W) => readPair_t s W hs hW)
  clear env
  generalize rp s = x at *
  obtain ⟨x0, x1⟩ := x
  go_enter Tryd.func43, Tryd.ntmps43
  go_wp2_with (first | (go_at_call 37; refine (HP.out _ (HE.out.below ((Below.refl w.heap.size w).alloc (Nat.le_refl _) _))).mono ?_; rintro e1 W1 ⟨rfl, b1⟩; obtain ⟨k1, g1⟩ := bcell b1; have s1 : w.heap.size < W1.heap.size := (by have := b1.size; simp at this; omega); have y0 : W1.cell? ⟨w.heap.size, 0, none⟩ = some (.int .i64 0) := (by rw [k1 _ _ (by first | omega | (simp; done) | (simp; omega))]; first | (simp; done) | go_simp); have yf0 : W1.frozen? ⟨w.heap.size, 0, none⟩ = false := (by rw [g1 _ _ (by first | omega | (simp; done) | (simp; omega))]; first | (simp; done) | go_simp); have y1 : W1.cell? ⟨w.heap.size, 1, none⟩ = some (.int .i64 0) := (by rw [k1 _ _ (by first | omega | (simp; done) | (simp; omega))]; first | (simp; done) | go_simp); have yf1 : W1.frozen? ⟨w.heap.size, 1, none⟩ = false := (by rw [g1 _ _ (by first | omega | (simp; done) | (simp; omega))]; first | (simp; done) | go_simp); clear k1 g1; have d1 : Below w.heap.size w W1 := (by repeat (first | assumption | exact Below.refl _ _ | (refine Below.trans ?_ (b1.mono (by first | omega | (simp; done) | (simp; omega)))) | (refine Below.setCell ?_ (by first | omega | (simp; done) | (simp; omega)) _) | apply below_drewN | apply Below.drew | (refine Below.alloc ?_ (by first | omega | (simp; done) | (simp; omega)) _))); clear b1))
  exact bodyPost_ret (v := .agg #[.int .i64 x0, .int .i64 x1]) (by simp [results, Tryd.results43, go_sem, y0, y1, yf0, yf1]) rfl ⟨rfl, (by repeat (first | assumption | exact Below.refl _ _ | (refine Below.trans ?_ (d1.mono (by first | omega | (simp; done) | (simp; omega)))) | (refine Below.setCell ?_ (by first | omega | (simp; done) | (simp; omega)) _) | apply below_drewN | apply Below.drew | (refine Below.alloc ?_ (by first | omega | (simp; done) | (simp; omega)) _)))⟩

set_option maxRecDepth 100000 in
set_option maxHeartbeats 1600000 in
theorem rdWords_t (s : ByteArray) (w : World) (hs : s.size ≤ 1048576) (env : DkEnv w) :
    Calls Tryd.prog 69 #[.string s, .func (.func 43) #[] #[]] w fun e w' => ∃ B d, e = .returned (.slice B (wordsOf s).length d) ∧ Below w.heap.size w w' ∧ Wr_Section w' w.heap.size B (wordsOf s).length ((wordsOf s).map rp) := by
  have HE := Lib.hid env
  have hwl := words_le s
  have HW := Lib.hid (fun (k : Nat) (hk : k < (wordsOf s).length) => words_sz2 hk)
  have HT := Lib.hid (fun (k : Nat) (hk : k < (wordsOf s).length) => take_map (wordsOf s) hk)
  have HSW := Lib.hid (fun W => implC_SplitWords s W hs)
  clear env
  generalize wordsOf s = L at *
  go_enter Tryd.func69, Tryd.ntmps69
  go_wp2_with (first | (go_at_call 52; refine (HSW.out _).mono ?_; rintro e1 W1 ⟨A, c, rfl, b1, hw1⟩; have HRD1 := Lib.hid hw1.rd; have s1 := b1.size; clear hw1))
  go_loopw [5, 7, 11] (fun v _ i wr => ∃ k : Nat, k ≤ L.length ∧ i = .int .i64 (k : Int) ∧ Below W1.heap.size W1 wr ∧ W1.heap.size ≤ wr.heap.size ∧ wr.ownsRow W1.heap.size 62 2 v k (csSection ((L.take k).map rp))) (fun _ _ i _ => L.length - (intOf i).toNat)
  case atStart => exact ⟨0, by omega, rfl, Below.refl _ _, Nat.le_refl _, World.ownsRow_nil _ _ _ _⟩
  case round =>
    obtain ⟨k, hk, rfl, hb, hz, hown⟩ := hrel
    have d0 : Below w.heap.size w wr := b1.trans (hb.mono s1)
    by_cases hlt : k < L.length
    · obtain ⟨ab, o, rfl, hbB, hc⟩ := HRD1.out.2 (by omega)
      have c1 := (hb.cell (p := ⟨ab, o + k, none⟩) hbB).trans (hc k hlt)
      clear hc
      have hsz := HW.out k hlt
      have HS := Lib.hid (HT.out k hlt)
      obtain ⟨p, hp⟩ : ∃ p, p = L.getD k ⟨#[]⟩ := ⟨_, rfl⟩
      rw [← hp] at c1 hsz HS
      clear hp
      have HP := Lib.hid (fun (W : World) (hW : DkEnv W) => rdOne_t p W (by omega) hW)
      generalize rp p = x at HS HP
      obtain ⟨x0, x1⟩ := x
      go_wp2_with (first | (go_at_call 43; refine (HP.out _ (HE.out.below d0)).mono ?_; rintro e2 W2 ⟨rfl, b2⟩; have s2 := b2.size; have hown2 := owns_below hown b2) | (at_builtin; refine wplApp1S rfl _ _ rfl _ _ (by simp) _ _ _ ((L.take k).map rp) x0 x1 rfl (by exact hown2) rfl (by omega) (by omega) ?_; intro v1 w1 hown1 hb1 hz1))
      go_roundw
      case rel => exact ⟨k + 1, by omega, by go_num, (hb.trans (b2.mono hz)).trans hb1, by omega, by rw [HS.out]; exact hown1⟩
      case measure => simp [intOf]; omega
    · obtain rfl : k = L.length := by omega
      rw [List.take_length] at hown
      have hcap := own_cap hown
      obtain ⟨B, d, rfl, hw⟩ := own_wrSection hown
      have HWR := Lib.hid (hw.lower s1)
      clear hown hw
      have HCP := Lib.hid (hcap _ _ rfl)
      clear hcap
      go_wp2
      go_ret
      exact ⟨B, d, rfl, d0, HWR.out⟩

set_option maxRecDepth 100000 in
set_option maxHeartbeats 1600000 in
theorem rdList_t (s : ByteArray) (w : World) (hs : s.size ≤ 1048576) (env : DkEnv w) :
    Calls Tryd.prog 42 #[.string s, .func (.func 43) #[] #[], .func (.func 44) #[] #[]] w fun e w' => ∃ B d, e = .returned (.tuple #[.slice B ((rdRes s).getD []).length d, .bool (rdRes s).isSome]) ∧ Below w.heap.size w w' ∧ Wr_Section w' w.heap.size B ((rdRes s).getD []).length ((rdRes s).getD []) := by
  have HE := Lib.hid env
  have HYES := Lib.hid (show DkOk (wordsOf s).length ((wordsOf s).map rp) → txN ((wordsOf s).map rp) (wordsOf s).length = s → rdRes s = some ((wordsOf s).map rp) from fun h1 h2 => (rd_iff _ _).2 ⟨by rw [List.length_map]; exact h1, by rw [List.length_map]; exact h2.symm⟩)
  have HNO := Lib.hid (show ¬ (DkOk (wordsOf s).length ((wordsOf s).map rp) ∧ txN ((wordsOf s).map rp) (wordsOf s).length = s) → rdRes s = none from fun h => by
    unfold rdRes
    rw [List.length_map, if_neg h])
  have HNE := Lib.hid (show DkOk (wordsOf s).length ((wordsOf s).map rp) → txN ((wordsOf s).map rp) (wordsOf s).length = s → s ≠ ⟨#[]⟩ from fun h1 h2 e => by
    have h3 := (rd_iff s ((wordsOf s).map rp)).2 ⟨by rw [List.length_map]; exact h1, by rw [List.length_map]; exact h2.symm⟩
    have hw0 := words_le s
    have hz : s.size = 0 := by rw [e]; rfl
    have := h1.2.1
    omega)
  have hwl := words_le s
  obtain ⟨R, hR⟩ : ∃ R, R = rdRes s := ⟨_, rfl⟩
  rw [← hR] at HYES HNO ⊢
  have HRW := Lib.hid (fun (W : World) (hW : DkEnv W) => rdWords_t s W hs hW)
  clear env hR
  generalize hL : wordsOf s = L at *
  have er : DkOk L.length (L.map rp) → r0_DikeText (L.map rp) = txN (L.map rp) L.length := fun h => by unfold r0_DikeText; rw [List.length_map, if_pos h]
  have en : ¬ DkOk L.length (L.map rp) → r0_DikeText (L.map rp) = ⟨#[]⟩ := fun h => by unfold r0_DikeText; rw [List.length_map, if_neg h]
  obtain ⟨X, hX⟩ : ∃ X, X = r0_DikeText (L.map rp) := ⟨_, rfl⟩
  have HDT := Lib.hid (fun (B : Option Addr) (d : Nat) (W : World) (hW : Rd_Section W W.heap.size B L.length (L.map rp)) (hp : PowTab W) => dikeText_t B L.length d (L.map rp) W (by omega) hW hp)
  rw [← hX] at HDT er en
  clear hX hL
  by_cases he : s = ⟨#[]⟩
  · have hRn : R = none := HNO.out (fun x => HNE.out x.1 x.2 he)
    have ge : s.toList.isEmpty = true := by rw [he]; simp [ByteArray.toList_eq]
    subst hRn
    clear er en
    subst he
    go_enter Tryd.func42, Tryd.ntmps42
    go_wp2_with (first | (go_at_call 69; refine (HRW.out _ HE.out).mono ?_; rintro e1 W1 ⟨B, d, rfl, b1, hw⟩; have hrd := Lib.hid hw.rd; have HW9 := Lib.hid hw; clear hw; have s1 := b1.size) | (go_at_call 44; refine (HDT.out B d  _ hrd.out (pow_below HE.out.num.pow b1)).mono ?_; rintro e2 W2 ⟨rfl, b2⟩; have d9 := b1.trans (b2.mono s1); have HW8 := Lib.hid (HW9.out.below b2)))
    go_ret2
    exact ⟨none, 0, rfl, b1, rfl, fun h => absurd h (by simp)⟩
  · have ge : s.toList.isEmpty = false := emptyF he
    by_cases g : X = s
    · have hk : DkOk L.length (L.map rp) := by
        by_cases h : DkOk L.length (L.map rp)
        · exact h
        · exact absurd ((en h).symm.trans g).symm he
      have hRs : R = some (L.map rp) := HYES.out hk ((er hk).symm.trans g)
      have gt := strT g
      subst hRs
      rw [g] at HDT
      clear er en
      go_enter Tryd.func42, Tryd.ntmps42
      go_wp2_with (first | (go_at_call 69; refine (HRW.out _ HE.out).mono ?_; rintro e1 W1 ⟨B, d, rfl, b1, hw⟩; have hrd := Lib.hid hw.rd; have HW9 := Lib.hid hw; clear hw; have s1 := b1.size) | (go_at_call 44; refine (HDT.out B d  _ hrd.out (pow_below HE.out.num.pow b1)).mono ?_; rintro e2 W2 ⟨rfl, b2⟩; have d9 := b1.trans (b2.mono s1); have HW8 := Lib.hid (HW9.out.below b2)))
      go_ret2
      exact ⟨B, d, by simp, d9, by simpa using HW8.out⟩
    · have hRn : R = none := HNO.out (fun x => g ((er x.1).trans x.2))
      have gf := strF g
      subst hRn
      clear er en
      go_enter Tryd.func42, Tryd.ntmps42
      go_wp2_with (first | (go_at_call 69; refine (HRW.out _ HE.out).mono ?_; rintro e1 W1 ⟨B, d, rfl, b1, hw⟩; have hrd := Lib.hid hw.rd; have HW9 := Lib.hid hw; clear hw; have s1 := b1.size) | (go_at_call 44; refine (HDT.out B d  _ hrd.out (pow_below HE.out.num.pow b1)).mono ?_; rintro e2 W2 ⟨rfl, b2⟩; have d9 := b1.trans (b2.mono s1); have HW8 := Lib.hid (HW9.out.below b2)))
      go_ret2
      exact ⟨none, 0, rfl, d9, rfl, fun h => absurd h (by simp)⟩

set_option maxHeartbeats 800000 in
theorem readDike_impl (s : ByteArray) (w : World) (hs : s.size ≤ 1048576) (env : DkEnv w) :
    Calls Tryd.prog 12 #[.string s] w fun e w' => ∃ B d, e = .returned (.tuple #[.slice B ((rdRes s).getD []).length d, .bool (rdRes s).isSome]) ∧ Below w.heap.size w w' ∧ Wr_Section w' w.heap.size B ((rdRes s).getD []).length ((rdRes s).getD []) := by
  have HR := Lib.hid (rdList_t s w hs env)
  clear env
  generalize (rdRes s).getD [] = Y at *
  generalize (rdRes s).isSome = bs at *
  go_enter Tryd.func12, Tryd.ntmps12
  go_wp2_with (first | (go_at_call 42; refine HR.out.mono ?_; rintro e1 W1 ⟨B, d, rfl, b1, hw⟩; have HW := Lib.hid hw; clear hw))
  go_ret2
  exact ⟨B, d, rfl, b1, HW.out⟩

end Go.Proofs.YticbnahndidplaaDoor
