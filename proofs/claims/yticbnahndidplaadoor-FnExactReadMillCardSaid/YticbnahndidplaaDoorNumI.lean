/- The program's number of a decimal form, out of the shelf's contracts of strings.TrimPrefix and strconv.ParseInt. -/
import Derived.Test.YticbnahndidplaaDoorNum
import Derived.Test.YticbnahndidplaaDoorDecI
import Derived.Test.YticbnahndidplaaDoorStr
import Derived.Lib.ParseIntBTie
import Derived.Lib.SmallJoins
namespace Go.Proofs.YticbnahndidplaaDoor
open Go.RowKit

theorem laid_iface {H : Type} {enc : TypeId × Value → H} {P : Program} {w : World} {base : Nat} {spare : Nat → Bool} {held : Bool} {m : Nat} {e : TypeId} {ms : Array (String × TypeId)} {c : Value} {d : DataW H} {ps : List MemPlace}
    (he : P.underlying e = some (.interface ms)) (h : DataW.trod enc P w base spare held m e [c] = some (d, ps)) : c = .nilIface ∨ ∃ t x, c = .iface t x := by
  cases m with
  | zero => simp [DataW.trod] at h
  | succ m =>
    cases c <;> simp [DataW.trod, he] at h ⊢

/-- What the two named errors of strconv hold: an interface value. -/
def ErrCell (w : World) (g : Nat) : Prop := ∃ ev, w.cell? ⟨g, 0, none⟩ = some ev ∧ (ev = .nilIface ∨ ∃ t x, ev = .iface t x)

theorem err_of_laid {w : World} {l : List (String × DataW Unit)} {n : String} {d : DataW Unit} {g : Nat} {t : TypeId} {ms : Array (String × TypeId)} (h : laidMet Tryd.prog l w) (hm : (n, d) ∈ l) (hg : Tryd.prog.globalNamed n = some g) (ht : (Tryd.prog.globals[g]?).map (·.type) = some t)
    (hu : Tryd.prog.underlying t = some (.interface ms)) (_hd : ∃ a b, d = .iface a b) : ErrCell w g := by
  obtain ⟨ps, h, _⟩ := h
  obtain ⟨g', t', cs, fuel, p, hg', ht', hv, htr⟩ := laid_at h _ _ hm
  obtain rfl := Option.some.inj (hg.symm.trans hg')
  obtain rfl := Option.some.inj (ht.symm.trans ht')
  obtain ⟨l⟩ := cs
  have hl : ∃ c, l = [c] := by
    cases fuel with
    | zero => simp [DataW.trod] at htr
    | succ m =>
      rcases l with _ | ⟨c, _ | ⟨b, r⟩⟩
      · simp [DataW.trod, hu] at htr
      · exact ⟨c, rfl⟩
      · simp [DataW.trod, hu] at htr
  obtain ⟨c, rfl⟩ := hl
  refine ⟨c, ?_, laid_iface hu htr⟩
  rw [World.var?_cell hg hv 0]
  rfl

theorem ErrCell.below {w w' : World} {g : Nat} (h : ErrCell w g) (hb : Below w.heap.size w w') : ErrCell w' g := by
  obtain ⟨ev, h1, h2⟩ := h
  exact ⟨ev, (hb.cell (World.block_lt_of_cell? _ _ h1)).trans h1, h2⟩

theorem parse_bad (s : ByteArray) (hlim : s.size ≤ 281474976710656) (h : ∀ v, Lib.parseIntB 64 s.data.toList ≠ .ok v) (h2 : Lib.parseIntB 64 s.data.toList ≠ .range) (ev : Value) (w : World) (hv : w.cell? ⟨2, 0, none⟩ = some ev) (hev : ev = .nilIface ∨ ∃ te pe, ev = .iface te pe) :
    Calls Tryd.prog 95 #[.string s, .int .i64 10, .int .i64 64] w fun e w' => ∃ (N : Nat) (t : TypeId), e = .returned (.tuple #[.int .i64 (0), .iface t (.pointer (some ⟨N, 0, none⟩))]) ∧ Below w.heap.size w w' :=
  (Any.strconv_ParseInt_10_at64_syntax Tryd.laysC174 s hlim (by
    cases hp : Lib.parseIntB 64 s.data.toList with
    | ok v => exact absurd hp (h v)
    | range => exact absurd hp h2
    | _ => rfl) ev w hv hev).mono fun _ _ ⟨N, h1, _, _, h4⟩ => ⟨N, _, h1, h4⟩

structure NumEnv (w : World) : Prop where
  pow : PowTab w
  syn : ErrCell w 2
  ran : ErrCell w 3
theorem NumEnv.below {w w' : World} (h : NumEnv w) (hb : Below w.heap.size w w') : NumEnv w' := ⟨pow_below h.pow hb, h.syn.below hb, h.ran.below hb⟩

theorem parse_world {w w' : World} (h : w' = w ∨ ∃ t, w' = Lib.bytesWorld w 5 t) : Below w.heap.size w w' := by
  rcases h with rfl | ⟨t, rfl⟩
  · exact Below.refl _ _
  · exact Joins.below_bytesWorld _ _ _ _ (Nat.le_refl _)

set_option maxHeartbeats 1000000 in
theorem num_impl (s : ByteArray) (w : World) (hs : s.size ≤ 1048576) (env : NumEnv w) (res : Option Int) (hres : ∀ n, res = some n ↔ DecOf s.data.toList n) :
    Calls Tryd.prog 79 #[.string s] w fun e w' => e = .returned (.tuple #[.int .i64 (res.getD 0), .bool res.isSome]) ∧ Below w.heap.size w w' := by
  have HR := Lib.hid hres
  have HE := Lib.hid env
  clear hres env
  obtain ⟨T, hT⟩ : ∃ T : ByteArray, T = ⟨(Lib.trimPrefix s.data.toList [45]).toArray⟩ := ⟨_, rfl⟩
  have hTs : T.size = (strip s.data.toList).length := by rw [hT]; rfl
  by_cases h18 : T.size ≤ 18
  · cases hp : Lib.parseIntB 64 s.data.toList with
    | ok n =>
      have hb := Lib.parseIntB_bounds hp
      have hn : I64 n := by
        obtain ⟨h1, h2⟩ := hb
        rw [show (2 ^ (64 - 1) : Nat) = 9223372036854775808 from rfl] at h1 h2
        exact ⟨by omega, by omega⟩
      have HN := Lib.hid hn
      have HP := Lib.hid hp
      have HT := Lib.hid hT
      have HS := Lib.hid hTs
      clear hb hn hp hT hTs
      by_cases hq : Lib.itoa n = s.data.toList
      · have hr : res = some n := (HR.out _).2 ⟨hq.symm, by rw [← HS.out]; exact h18⟩
        have hq' : (Lib.itoa n == s.toList) = true := by rw [ByteArray.toList_eq, hq]; simp
        subst hr
        have HQ := Lib.hid hq
        clear hq
        go_enter Tryd.func79, Tryd.ntmps79
        go_wp2_with fail
        refine (Tryd.strings_TrimPrefix _ _ _).mono ?_
        rintro e w1 ⟨rfl, rfl⟩
        rw [show (⟨(Lib.trimPrefix s.data.toList (ByteArray.mk #[45]).data.toList).toArray⟩ : ByteArray) = T from HT.out.symm]
        go_wp2_with fail
        refine (Tryd.strconv_ParseInt_10_at64_ok s (by omega) n HP.out _).mono ?_
        rintro e w2 ⟨rfl, hw⟩
        have b2 := parse_world hw
        clear hw
        go_wp2_with fail
        refine (dec_impl n _ HN.out (HE.out.below b2).pow).mono ?_
        rintro e w3 ⟨rfl, b3⟩
        go_wp2_with fail
        go_ret2
        exact ⟨rfl, b2.trans (b3.mono b2.size)⟩
      · have hq' : (Lib.itoa n == s.toList) = false := by rw [ByteArray.toList_eq]; simpa using hq
        have hbad : res = none := by
          cases hr : res with
          | none => rfl
          | some m =>
            have hd := (HR.out m).1 hr
            have e2 := hd.parse.symm.trans HP.out
            injection e2 with e2
            exact absurd (by rw [← e2]; exact hd.1.symm) hq
        subst hbad
        have HQ := Lib.hid hq
        clear hq
        go_enter Tryd.func79, Tryd.ntmps79
        go_wp2_with fail
        refine (Tryd.strings_TrimPrefix _ _ _).mono ?_
        rintro e w1 ⟨rfl, rfl⟩
        rw [show (⟨(Lib.trimPrefix s.data.toList (ByteArray.mk #[45]).data.toList).toArray⟩ : ByteArray) = T from HT.out.symm]
        go_wp2_with fail
        refine (Tryd.strconv_ParseInt_10_at64_ok s (by omega) n HP.out _).mono ?_
        rintro e w2 ⟨rfl, hw⟩
        have b2 := parse_world hw
        clear hw
        go_wp2_with fail
        refine (dec_impl n _ HN.out (HE.out.below b2).pow).mono ?_
        rintro e w3 ⟨rfl, b3⟩
        go_wp2_with fail
        go_ret2
        exact ⟨rfl, b2.trans (b3.mono b2.size)⟩
    | range =>
      have hbad : res = none := by
        cases hr : res with
        | none => rfl
        | some m =>
          have e2 := ((HR.out m).1 hr).parse.symm.trans hp
          cases e2
      subst hbad
      have HP := Lib.hid hp
      have HT := Lib.hid hT
      clear hp hT hTs
      obtain ⟨ev, h1, h2⟩ := HE.out.ran
      have H1 := Lib.hid h1
      clear h1
      go_enter Tryd.func79, Tryd.ntmps79
      go_wp2_with fail
      refine (Tryd.strings_TrimPrefix _ _ _).mono ?_
      rintro e w1 ⟨rfl, rfl⟩
      rw [show (⟨(Lib.trimPrefix s.data.toList (ByteArray.mk #[45]).data.toList).toArray⟩ : ByteArray) = T from HT.out.symm]
      go_wp2_with fail
      refine (Tryd.strconv_ParseInt_10_at64_range s (by omega) HP.out ev _ H1.out h2).mono ?_
      rintro e w2 ⟨N, rfl, _, _, b2⟩
      go_wp2_with fail
      go_ret2
      exact ⟨rfl, b2⟩
    | _ =>
      have hbad : res = none := by
        cases hr : res with
        | none => rfl
        | some m =>
          have e2 := ((HR.out m).1 hr).parse.symm.trans hp
          cases e2
      subst hbad
      have HP := Lib.hid hp
      have HT := Lib.hid hT
      clear hp hT hTs
      obtain ⟨ev, h1, h2⟩ := HE.out.syn
      have H1 := Lib.hid h1
      clear h1
      go_enter Tryd.func79, Tryd.ntmps79
      go_wp2_with fail
      refine (Tryd.strings_TrimPrefix _ _ _).mono ?_
      rintro e w1 ⟨rfl, rfl⟩
      rw [show (⟨(Lib.trimPrefix s.data.toList (ByteArray.mk #[45]).data.toList).toArray⟩ : ByteArray) = T from HT.out.symm]
      go_wp2_with fail
      refine (parse_bad s (by omega) (by rw [HP.out]; intro v e; cases e) (by rw [HP.out]; intro e; cases e) ev _ H1.out h2).mono ?_
      rintro e w2 ⟨N, t, rfl, b2⟩
      go_wp2_with fail
      go_ret2
      exact ⟨rfl, b2⟩
  · have hbad : res = none := by
      cases hr : res with
      | none => rfl
      | some m =>
        have e2 := ((HR.out m).1 hr).2
        omega
    subst hbad
    have HT := Lib.hid hT
    have hTb : T.size ≤ 1048576 := by
      rw [hTs]
      have h1 : (strip s.data.toList).length ≤ s.data.toList.length := by
        unfold strip Lib.trimPrefix
        split
        · rw [List.length_drop]; omega
        · exact Nat.le_refl _
      have h2 : s.data.toList.length = s.size := rfl
      omega
    clear hT hTs
    go_enter Tryd.func79, Tryd.ntmps79
    go_wp2_with fail
    refine (Tryd.strings_TrimPrefix _ _ _).mono ?_
    rintro e w1 ⟨rfl, rfl⟩
    rw [show (⟨(Lib.trimPrefix s.data.toList (ByteArray.mk #[45]).data.toList).toArray⟩ : ByteArray) = T from HT.out.symm]
    go_wp2_with fail
    go_ret2
    exact ⟨rfl, Below.refl _ _⟩


end Go.Proofs.YticbnahndidplaaDoor
