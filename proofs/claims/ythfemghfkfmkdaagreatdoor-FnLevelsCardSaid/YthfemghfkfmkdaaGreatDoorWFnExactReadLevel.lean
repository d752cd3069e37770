/- The law of ReadLevel. -/
import Derived.Test.YthfemghfkfmkdaaGreatDoorReadP
import Derived.Test.YthfemghfkfmkdaaGreatDoorChars
import Derived.Test.YthfemghfkfmkdaaGreatDoorReadS
import Derived.Deep.RegionHeld3
import Derived.Laws.StructEq
import Derived.Test.YthfemghfkfmkdaaGreatDoorWFnExactReadDecimal
import Derived.Shelf.Vars
namespace Go.Proofs.YthfemghfkfmkdaaGreatDoor
open Go.RowKit

theorem mkB_toList (s : ByteArray) : mkB s.data.toList = s := by cases s; simp [mkB]
/-- two digits -/
def Two10 (d : ByteArray) (v : Int) : Prop := ∃ a b, d.data.toList = [a, b] ∧ dig a ∧ dig b ∧ v = 10 * ((a.toNat : Int) - 48) + ((b.toNat : Int) - 48)

set_option maxRecDepth 100000 in
set_option maxHeartbeats 1600000 in
theorem two_t (d : ByteArray) (w : World) (hd : d.size ≤ 1048576) :
    Calls Tryz.prog 77 #[.string d] w fun e w' => ∃ (v : Int) (ok : Bool), e = .returned (.tuple #[.int .i64 v, .bool ok]) ∧ Below w.heap.size w w' ∧ (ok = true → Two10 d v) ∧ (ok = false → ∀ v', ¬ Two10 d v') := by
  by_cases h2 : d.size = 2
  · obtain ⟨a, b, hab⟩ : ∃ a b, d.data.toList = [a, b] := by
      have hl : d.data.toList.length = 2 := h2
      match hd2 : d.data.toList, hl with
      | [a, b], _ => exact ⟨a, b, rfl⟩
    have y1 : 0 < d.size := by omega
    have y2 : 1 < d.size := by omega
    have x1 : (0 : Int) < (d.size : Int) := by omega
    have x2 : (1 : Int) < (d.size : Int) := by omega
    have ea : d[0] = a := by rw [at_list d _ hab 0 y1]; rfl
    have eb : d[1] = b := by rw [at_list d _ hab 1 y2]; rfl
    have HAB := Lib.hid hab
    by_cases c6 : dig a
    · by_cases c7 : dig b
      · have HV := Lib.hid (show Two10 d (10 * ((a.toNat : Int) - 48) + ((b.toNat : Int) - 48)) from ⟨a, b, hab, c6, c7, rfl⟩)
        obtain ⟨u1, u2⟩ := c6
        obtain ⟨v1, v2⟩ := c7
        rw [← ea] at u1 u2 HV
        rw [← eb] at v1 v2 HV
        have u1' : (48 : Int) ≤ (d[0].toNat : Int) := by omega
        have u2' : (d[0].toNat : Int) ≤ 57 := by omega
        have v1' : (48 : Int) ≤ (d[1].toNat : Int) := by omega
        have v2' : (d[1].toNat : Int) ≤ 57 := by omega
        have w0 : IntKind.u8.wrap ((d[0].toNat : Int) - 48) = (d[0].toNat : Int) - 48 := by rw [IntKind.wrap_u8]; omega
        have w1 : IntKind.u8.wrap ((d[1].toNat : Int) - 48) = (d[1].toNat : Int) - 48 := by rw [IntKind.wrap_u8]; omega
        clear hab ea eb u1 u2 v1 v2
        go_enter Tryz.func77, Tryz.ntmps77
        go_wp2_with (first | (go_at_call 89; first | (refine (idg_t _ _ (by omega)).mono ?_; rintro e w' ⟨rfl, rfl⟩) | (refine (idg_f _ _ (by omega)).mono ?_; rintro e w' ⟨rfl, rfl⟩)))
        go_quiet (fail)
        go_wp2
        go_ret2
        exact ⟨_, true, rfl, below_drewN (Below.refl _ _) _, fun _ => HV.out, fun e => (by cases e)⟩
      · have c7' : (d[1].toNat : Int) < 48 ∨ 57 < (d[1].toNat : Int) := by rw [eb]; unfold dig at c7; omega
        have HNO := Lib.hid (show ∀ v', ¬ Two10 d v' from fun v' ⟨a', b', e, _, k, _⟩ => by
          rw [hab] at e
          injection e with e1 e2
          injection e2 with e2 _
          exact c7 (e2 ▸ k))
        obtain ⟨u1, u2⟩ := c6
        rw [← ea] at u1 u2
        have u1' : (48 : Int) ≤ (d[0].toNat : Int) := by omega
        have u2' : (d[0].toNat : Int) ≤ 57 := by omega
        clear hab ea eb u1 u2 c7
        have z1 : d[1].toNat ≤ 255 := by have := d[1].toNat_lt; omega
        rcases c7' with c7' | c7'
        all_goals
          go_enter Tryz.func77, Tryz.ntmps77
          go_wp2_with (first | (go_at_call 89; first | (refine (idg_t _ _ (by omega)).mono ?_; rintro e w' ⟨rfl, rfl⟩) | (refine (idg_f _ _ (by omega)).mono ?_; rintro e w' ⟨rfl, rfl⟩)))
          go_ret2
          exact ⟨0, false, rfl, Below.refl _ _, fun e => (by cases e), fun _ => HNO.out⟩
    · have c6' : (d[0].toNat : Int) < 48 ∨ 57 < (d[0].toNat : Int) := by rw [ea]; unfold dig at c6; omega
      have HNO := Lib.hid (show ∀ v', ¬ Two10 d v' from fun v' ⟨a', b', e, k, _, _⟩ => by
        rw [hab] at e
        injection e with e1 e2
        exact c6 (e1 ▸ k))
      clear hab ea eb c6
      have z1 : d[0].toNat ≤ 255 := by have := d[0].toNat_lt; omega
      rcases c6' with c6' | c6'
      all_goals
        go_enter Tryz.func77, Tryz.ntmps77
        go_wp2_with (first | (go_at_call 89; first | (refine (idg_t _ _ (by omega)).mono ?_; rintro e w' ⟨rfl, rfl⟩) | (refine (idg_f _ _ (by omega)).mono ?_; rintro e w' ⟨rfl, rfl⟩)))
        go_ret2
        exact ⟨0, false, rfl, Below.refl _ _, fun e => (by cases e), fun _ => HNO.out⟩
  · have h2' : ((d.size : Int) != 2) = true := by simp; omega
    have HNO := Lib.hid (show ∀ v', ¬ Two10 d v' from fun v' ⟨a', b', e, _, _, _⟩ => h2 (by rw [size_list d _ e]; rfl))
    clear h2
    go_enter Tryz.func77, Tryz.ntmps77
    go_wp2_with (first | (go_at_call 89; first | (refine (idg_t _ _ (by omega)).mono ?_; rintro e w' ⟨rfl, rfl⟩) | (refine (idg_f _ _ (by omega)).mono ?_; rintro e w' ⟨rfl, rfl⟩)))
    go_ret2
    exact ⟨0, false, rfl, Below.refl _ _, fun e => (by cases e), fun _ => HNO.out⟩
theorem form_cut {s : ByteArray} {x y : List UInt8} {c0 : UInt8} {rest : List UInt8} {m : Int} {a b : UInt8} (h : s.data.toList = (x ++ 46 :: y) ++ [109]) (hx : ∀ c ∈ x, c ≠ 46) (k : LvForm s c0 rest m a b) : x = c0 :: rest ∧ y = [a, b] := by
  have e1 := List.append_cancel_right (h.symm.trans k.1)
  have q1 := cut_app 46 x y hx
  have q2 := cut_app 46 (c0 :: rest) [a, b] k.2.1
  rw [e1] at q1
  have q3 := q1.symm.trans q2
  injection q3 with z1 z2
  injection z2 with z3 _
  exact ⟨z1, z3⟩
def POT (s sg : ByteArray) (m cc : Int) (ok : Bool) : Prop := sg.size ≤ 1 ∧ (ok = true → ∃ c0 rest a b, LvForm s c0 rest m a b ∧ sg = mkB [c0] ∧ cc = 10 * ((a.toNat : Int) - 48) + ((b.toNat : Int) - 48)) ∧ (ok = false → ∀ c0 rest m a b, ¬ LvForm s c0 rest m a b)
theorem pot_no {s : ByteArray} (h : ∀ c0 rest m a b, ¬ LvForm s c0 rest m a b) : POT s ⟨#[]⟩ 0 0 false := ⟨by decide, fun e => (by cases e), fun _ => h⟩

set_option maxRecDepth 100000 in
set_option maxHeartbeats 3200000 in
theorem pot_t (s : ByteArray) (w : World) (hs : s.size ≤ 1048576) (env : NumEnv w) (ml : Int) (hml : w.cell? ⟨1, 0, none⟩ = some (.int .i64 ml)) :
    Calls Tryz.prog 55 #[.string s] w fun e w' => ∃ (sg : ByteArray) (m cc : Int) (ok : Bool), e = .returned (.tuple #[.agg #[.string sg, .int .i64 m, .int .i64 cc], .bool ok]) ∧ Below w.heap.size w w' ∧ POT s sg m cc ok := by
  have HE := Lib.hid env
  have hg0 : 1 < w.heap.size := World.block_lt_of_cell? _ _ hml
  have HML := Lib.hid (show ∀ o : Obj, (w.alloc o).cell? ⟨1, 0, none⟩ = some (.int .i64 ml) from fun o => (World.cell?_of_block (w := w) (a := ⟨1, 0, none⟩) (Below.heap_alloc _ _ _ hg0)).trans hml)
  clear env hml
  obtain ⟨BD, hBD⟩ : ∃ BD : ByteArray, BD = ⟨(Lib.trimSuffix s.data.toList (ByteArray.mk #[109]).data.toList).toArray⟩ := ⟨_, rfl⟩
  obtain ⟨en, hen⟩ : ∃ en : Bool, en = Lib.hasSuffix s.data.toList (ByteArray.mk #[109]).data.toList := ⟨_, rfl⟩
  obtain ⟨SG, hSG⟩ : ∃ SG : ByteArray, SG = ⟨(Lib.cut BD.data.toList (ByteArray.mk #[46]).data.toList).1.toArray⟩ := ⟨_, rfl⟩
  obtain ⟨DG, hDG⟩ : ∃ DG : ByteArray, DG = ⟨(Lib.cut BD.data.toList (ByteArray.mk #[46]).data.toList).2.1.toArray⟩ := ⟨_, rfl⟩
  obtain ⟨cu, hcu⟩ : ∃ cu : Bool, cu = (Lib.cut BD.data.toList (ByteArray.mk #[46]).data.toList).2.2 := ⟨_, rfl⟩
  have hBs : BD.size ≤ 1048576 := by
    rw [hBD]
    show (Lib.trimSuffix s.data.toList [109]).length ≤ 1048576
    unfold Lib.trimSuffix
    have hl : s.data.toList.length = s.size := rfl
    split
    · rw [List.length_take]; omega
    · omega
  have HBD := Lib.hid hBD
  have HEN := Lib.hid hen
  have HSG := Lib.hid hSG
  have HDG := Lib.hid hDG
  have HCU := Lib.hid hcu
  have hF : (en = true ∧ ∃ t, s.data.toList = t ++ [109] ∧ BD.data.toList = t) ∨ (en = false ∧ ∀ c0 rest m a b, ¬ LvForm s c0 rest m a b) := by
    rcases suffix_or 109 s.data.toList with ⟨t, ht⟩ | hno
    · left
      obtain ⟨e1, e2⟩ := suffix_one 109 t
      refine ⟨by rw [hen, ht]; exact e1, t, ht, ?_⟩
      rw [hBD, ht]
      show (Lib.trimSuffix (t ++ [109]) [109]).toArray.toList = t
      rw [e2]
    · right
      refine ⟨by rw [hen]; exact hno, fun c0 rest m a b k => ?_⟩
      rw [k.1, (suffix_one 109 _).1] at hno
      cases hno
  clear hBD hen hSG hDG hcu
  have CUT : ∀ W : World, (∃ nq, W = w.drewN nq ∨ True) → W.cell? ⟨1, 0, none⟩ = some (.int .i64 ml) → Calls Tryz.prog 75 #[.string BD, .string ⟨#[46]⟩] W fun e w' => e = .returned (.tuple #[.string SG, .string DG, .bool cu]) ∧ ∃ n, w' = W.drewN n := fun W _ hW => by
    rw [HSG.out, HDG.out, HCU.out]
    exact Tryz.strings_Cut BD ⟨#[46]⟩ ml W (by omega) hW
  have CSX : ∀ W : World, Calls Tryz.prog 74 #[.string s, .string ⟨#[109]⟩] W fun e w' => e = .returned (.tuple #[.string BD, .bool en]) ∧ w' = W := fun W => by
    rw [HBD.out, HEN.out]
    exact Tryz.strings_CutSuffix s ⟨#[109]⟩ W (by omega)
  have HCUT := Lib.hid CUT
  have HCSX := Lib.hid CSX
  clear CUT CSX
  rcases hF with ⟨rfl, t, ht, hBt⟩ | ⟨rfl, hno⟩
  · rcases first_or 46 t with ⟨x, y, hxy, hx⟩ | hnt
    · have hcut : Lib.cut BD.data.toList (ByteArray.mk #[46]).data.toList = (x, y, true) := by rw [hBt, hxy]; exact cut_app 46 x y hx
      have hcu : cu = true := by rw [HCU.out, hcut]
      have hSG : SG.data.toList = x := by rw [HSG.out, hcut]
      have hDG : DG.data.toList = y := by rw [HDG.out, hcut]
      subst hcu
      have HFC := Lib.hid (show ∀ c0 rest m a b, LvForm s c0 rest m a b → x = c0 :: rest ∧ y = [a, b] from fun c0 rest m a b k => form_cut (by rw [ht, hxy]) hx k)
      have hlen : x.length + y.length ≤ 1048576 := by
        have h1 : BD.data.toList.length = BD.size := rfl
        rw [hBt, hxy, List.length_append, List.length_cons] at h1
        omega
      have HTX := Lib.hid (show s.data.toList = (x ++ 46 :: y) ++ [109] by rw [ht, hxy])
      have HXX := Lib.hid hx
      clear hcut hBt hxy ht hx
      cases x with
      | nil =>
        have hSe : SG = ⟨#[]⟩ := bytes_ext (by rw [hSG])
        subst hSe
        have HNO := Lib.hid (show ∀ c0 rest m a b, ¬ LvForm s c0 rest m a b from fun c0 rest m a b k => by have := (HFC.out _ _ _ _ _ k).1; cases this)
        clear hSG hDG
        go_enter Tryz.func55, Tryz.ntmps55
        go_wp2_with fail
        refine (HCSX.out _).mono ?_
        rintro q1 w1 ⟨rfl, rfl⟩
        go_wp2_with fail
        refine (HCUT.out _ ⟨0, .inr trivial⟩ (HML.out _)).mono ?_
        rintro q2 w2 ⟨rfl, nd, rfl⟩
        go_wp2
        exact bodyPost_ret (v := .tuple #[.agg #[.string ⟨#[]⟩, .int .i64 0, .int .i64 0], .bool false]) (by simp [results, Tryz.results55, go_sem]) rfl ⟨⟨#[]⟩, 0, 0, false, rfl, (by repeat (first | assumption | exact Below.refl _ _ | (refine Below.setCell ?_ (by first | omega | (simp; done) | (simp; omega)) _) | apply below_drewN | apply Below.drew | (refine Below.alloc ?_ (by first | omega | (simp; done) | (simp; omega)) _))), pot_no HNO.out⟩
      | cons c0 rest =>
        have hsz : SG.size = rest.length + 1 := size_list SG _ hSG
        have hne : SG.toList.isEmpty = false := isEmpty_f SG (by omega)
        have hs1 : (1 : Int) ≤ (SG.size : Int) := by omega
        have hs2 : 1 ≤ SG.size := by omega
        obtain ⟨RB, hRB⟩ : ∃ RB, RB = SG.extract 1 SG.size := ⟨_, rfl⟩
        have hRl : RB.data.toList = rest := by
          rw [hRB, ByteArray.data_extract, Array.toList_extract, List.extract_eq_take_drop, hSG, hsz]
          simp
        have hRs : RB.size ≤ 1048576 := by rw [size_list RB _ hRl]; simp only [List.length_cons] at hlen; omega
        have hDs : DG.size ≤ 1048576 := by rw [size_list DG _ hDG]; omega
        have hC1 : SG.extract 0 1 = mkB [c0] := mkB_list _ _ (by rw [ByteArray.data_extract, Array.toList_extract, List.extract_eq_take_drop, hSG]; simp)
        have HRB := Lib.hid hRB.symm
        have HC1 := Lib.hid hC1
        obtain ⟨rn, hrn⟩ := dec_res RB.data.toList
        have HRN := Lib.hid hrn
        have HRL := Lib.hid hRl
        have HDG2 := Lib.hid hDG
        clear hRB hC1 hrn hRl hSG hDG hsz hlen
        go_enter Tryz.func55, Tryz.ntmps55
        go_wp2_with fail
        refine (HCSX.out _).mono ?_
        rintro q1 w1 ⟨rfl, rfl⟩
        go_wp2_with fail
        refine (HCUT.out _ ⟨0, .inr trivial⟩ (HML.out _)).mono ?_
        rintro q2 w2 ⟨rfl, nd, rfl⟩
        go_wp2_with fail
        rw [HRB.out]
        refine (num_impl RB _ hRs (HE.out.below (by repeat (first | assumption | exact Below.refl _ _ | (refine Below.setCell ?_ (by first | omega | (simp; done) | (simp; omega)) _) | apply below_drewN | apply Below.drew | (refine Below.alloc ?_ (by first | omega | (simp; done) | (simp; omega)) _)))) rn HRN.out).mono ?_
        rintro q3 w3 ⟨rfl, b3⟩
        obtain ⟨k3, f3⟩ := bcell b3
        have s3 : w.heap.size < w3.heap.size := by have := b3.size; simp at this; omega
        have z0 : w3.cell? ⟨w.heap.size, 0, none⟩ = some (.string ⟨#[]⟩) := (by rw [k3 _ _ (by first | omega | (simp; done) | (simp; omega))]; first | (simp; done) | go_simp); have zf0 : w3.frozen? ⟨w.heap.size, 0, none⟩ = false := (by rw [f3 _ _ (by first | omega | (simp; done) | (simp; omega))]; first | (simp; done) | go_simp); have z1 : w3.cell? ⟨w.heap.size, 1, none⟩ = some (.int .i64 0) := (by rw [k3 _ _ (by first | omega | (simp; done) | (simp; omega))]; first | (simp; done) | go_simp); have zf1 : w3.frozen? ⟨w.heap.size, 1, none⟩ = false := (by rw [f3 _ _ (by first | omega | (simp; done) | (simp; omega))]; first | (simp; done) | go_simp); have z2 : w3.cell? ⟨w.heap.size, 2, none⟩ = some (.int .i64 0) := (by rw [k3 _ _ (by first | omega | (simp; done) | (simp; omega))]; first | (simp; done) | go_simp); have zf2 : w3.frozen? ⟨w.heap.size, 2, none⟩ = false := (by rw [f3 _ _ (by first | omega | (simp; done) | (simp; omega))]; first | (simp; done) | go_simp)
        clear k3 f3
        have d3 : Below w.heap.size w w3 := (by repeat (first | assumption | exact Below.refl _ _ | (refine Below.trans ?_ (b3.mono (by first | omega | (simp; done) | (simp; omega)))) | (refine Below.setCell ?_ (by first | omega | (simp; done) | (simp; omega)) _) | apply below_drewN | apply Below.drew | (refine Below.alloc ?_ (by first | omega | (simp; done) | (simp; omega)) _)))
        go_wp2_with fail
        refine (two_t DG _ hDs).mono ?_
        rintro q4 w4 ⟨v4, ok4, rfl, b4, t4, n4⟩
        have y0 : w4.cell? ⟨w.heap.size, 0, none⟩ = _ := (b4.cell (p := ⟨w.heap.size, 0, none⟩) (show w.heap.size < _ from (by first | omega | (simp; done) | (simp; omega)))).trans z0; have yf0 : w4.frozen? ⟨w.heap.size, 0, none⟩ = _ := (b4.frozen (p := ⟨w.heap.size, 0, none⟩) (show w.heap.size < _ from (by first | omega | (simp; done) | (simp; omega)))).trans zf0; have y1 : w4.cell? ⟨w.heap.size, 1, none⟩ = _ := (b4.cell (p := ⟨w.heap.size, 1, none⟩) (show w.heap.size < _ from (by first | omega | (simp; done) | (simp; omega)))).trans z1; have yf1 : w4.frozen? ⟨w.heap.size, 1, none⟩ = _ := (b4.frozen (p := ⟨w.heap.size, 1, none⟩) (show w.heap.size < _ from (by first | omega | (simp; done) | (simp; omega)))).trans zf1; have y2 : w4.cell? ⟨w.heap.size, 2, none⟩ = _ := (b4.cell (p := ⟨w.heap.size, 2, none⟩) (show w.heap.size < _ from (by first | omega | (simp; done) | (simp; omega)))).trans z2; have yf2 : w4.frozen? ⟨w.heap.size, 2, none⟩ = _ := (b4.frozen (p := ⟨w.heap.size, 2, none⟩) (show w.heap.size < _ from (by first | omega | (simp; done) | (simp; omega)))).trans zf2
        have d4 : Below w.heap.size w w4 := d3.trans (b4.mono (by omega))
        cases rn with
        | none =>
          have HNO := Lib.hid (show ∀ c0 rest m a b, ¬ LvForm s c0 rest m a b from fun c0' rest' m a b k => by
            have e := (HFC.out _ _ _ _ _ k).1
            injection e with e1 e2
            have := (HRN.out m).2 (by rw [HRL.out, e2]; exact k.2.2.1)
            cases this)
          clear t4 n4
          go_wp2
          exact bodyPost_ret (v := .tuple #[.agg #[.string ⟨#[]⟩, .int .i64 0, .int .i64 0], .bool false]) (by simp [results, Tryz.results55, go_sem, y0, y1, y2]) rfl ⟨⟨#[]⟩, 0, 0, false, rfl, ((d4.setCell (by simp) _).setCell (by simp) _).setCell (by simp) _, pot_no HNO.out⟩
        | some m =>
          cases ok4 with
          | false =>
            have HNO := Lib.hid (show ∀ c0 rest m a b, ¬ LvForm s c0 rest m a b from fun c0' rest' m a b k => n4 rfl _ ⟨a, b, by rw [HDG2.out]; exact (HFC.out _ _ _ _ _ k).2, k.2.2.2.1, k.2.2.2.2, rfl⟩)
            clear t4 n4
            go_wp2
            exact bodyPost_ret (v := .tuple #[.agg #[.string ⟨#[]⟩, .int .i64 0, .int .i64 0], .bool false]) (by simp [results, Tryz.results55, go_sem, y0, y1, y2]) rfl ⟨⟨#[]⟩, 0, 0, false, rfl, ((d4.setCell (by simp) _).setCell (by simp) _).setCell (by simp) _, pot_no HNO.out⟩
          | true =>
            obtain ⟨a, b, hab, ha, hb, rfl⟩ := t4 rfl
            have HOK := Lib.hid (show POT s (mkB [c0]) m (10 * ((a.toNat : Int) - 48) + ((b.toNat : Int) - 48)) true from ⟨Nat.le_of_eq rfl, fun _ => ⟨c0, rest, a, b, ⟨by rw [HTX.out, ← hab, HDG2.out], HXX.out, by rw [← HRL.out]; exact (HRN.out m).1 rfl, ha, hb⟩, rfl, rfl⟩, fun e => (by cases e)⟩)
            clear t4 n4 hab
            generalize 10 * ((a.toNat : Int) - 48) + ((b.toNat : Int) - 48) = cc at HOK ⊢
            go_wp2
            rw [HC1.out]
            exact bodyPost_ret (v := .tuple #[.agg #[.string (mkB [c0]), .int .i64 m, .int .i64 cc], .bool true]) (by simp [results, Tryz.results55, go_sem, y0, y1, y2]) rfl ⟨mkB [c0], m, cc, true, rfl, ((d4.setCell (by simp) _).setCell (by simp) _).setCell (by simp) _, HOK.out⟩
    · have hcut : Lib.cut BD.data.toList (ByteArray.mk #[46]).data.toList = (t, [], false) := by rw [hBt]; exact cut_no 46 t hnt
      have hcu : cu = false := by rw [HCU.out, hcut]
      subst hcu
      have HNO := Lib.hid (show ∀ c0 rest m a b, ¬ LvForm s c0 rest m a b from fun c0 rest m a b k => by
        have e1 := List.append_cancel_right (ht.symm.trans k.1)
        exact hnt 46 (by rw [e1]; simp) rfl)
      clear hcut hBt ht hnt
      go_enter Tryz.func55, Tryz.ntmps55
      go_wp2_with fail
      refine (HCSX.out _).mono ?_
      rintro q1 w1 ⟨rfl, rfl⟩
      go_wp2_with fail
      refine (HCUT.out _ ⟨0, .inr trivial⟩ (HML.out _)).mono ?_
      rintro q2 w2 ⟨rfl, nd, rfl⟩
      go_wp2
      exact bodyPost_ret (v := .tuple #[.agg #[.string ⟨#[]⟩, .int .i64 0, .int .i64 0], .bool false]) (by simp [results, Tryz.results55, go_sem]) rfl ⟨⟨#[]⟩, 0, 0, false, rfl, (by repeat (first | assumption | exact Below.refl _ _ | (refine Below.setCell ?_ (by first | omega | (simp; done) | (simp; omega)) _) | apply below_drewN | apply Below.drew | (refine Below.alloc ?_ (by first | omega | (simp; done) | (simp; omega)) _))), pot_no HNO.out⟩
  · have HNO := Lib.hid hno
    clear hno
    go_enter Tryz.func55, Tryz.ntmps55
    go_wp2_with fail
    refine (HCSX.out _).mono ?_
    rintro q1 w1 ⟨rfl, rfl⟩
    go_wp2_with fail
    refine (HCUT.out _ ⟨0, .inr trivial⟩ (HML.out _)).mono ?_
    rintro q2 w2 ⟨rfl, nd, rfl⟩
    go_wp2
    exact bodyPost_ret (v := .tuple #[.agg #[.string ⟨#[]⟩, .int .i64 0, .int .i64 0], .bool false]) (by simp [results, Tryz.results55, go_sem]) rfl ⟨⟨#[]⟩, 0, 0, false, rfl, (by repeat (first | assumption | exact Below.refl _ _ | (refine Below.setCell ?_ (by first | omega | (simp; done) | (simp; omega)) _) | apply below_drewN | apply Below.drew | (refine Below.alloc ?_ (by first | omega | (simp; done) | (simp; omega)) _))), pot_no HNO.out⟩

instance (n : Int) : Decidable (isLv n) := by unfold isLv; exact inferInstance
theorem strF1 {a : ByteArray} {c : UInt8} (h : ¬ a = ⟨#[c]⟩) : (a.toList == [c]) = false := by
  have e : (⟨#[c]⟩ : ByteArray).toList = [c] := by rw [ByteArray.toList_eq]
  have := strF h
  rw [e] at this
  exact this
set_option maxHeartbeats 400000 in
theorem vlev_t (x : Int) (w : World) : Calls Tryz.prog 24 #[.int .i64 x] w fun e w' => e = .returned (.bool (decide (isLv x))) ∧ w = w' := by
  by_cases h : isLv x
  · rw [decide_eq_true h]
    obtain ⟨h1, h2⟩ := h
    go_enter Tryz.func24, Tryz.ntmps24
    go_wp2_with (first | (go_at_call 32; first | (refine (within_t _ _ _ _ (by omega)).mono ?_; rintro e w' ⟨rfl, rfl⟩) | (refine (within_f _ _ _ _ (by omega)).mono ?_; rintro e w' ⟨rfl, rfl⟩)))
    go_ret
    exact ⟨rfl, rfl⟩
  · rw [decide_eq_false h]
    have h' : x < -2000 ∨ 2000 < x := by unfold isLv at h; omega
    clear h
    go_enter Tryz.func24, Tryz.ntmps24
    go_wp2_with (first | (go_at_call 32; first | (refine (within_t _ _ _ _ (by omega)).mono ?_; rintro e w' ⟨rfl, rfl⟩) | (refine (within_f _ _ _ _ (by omega)).mono ?_; rintro e w' ⟨rfl, rfl⟩)))
    go_ret
    exact ⟨rfl, rfl⟩

set_option maxRecDepth 100000 in
set_option maxHeartbeats 1600000 in
theorem lev_t (sg : ByteArray) (m cc : Int) (w : World) (hc0 : 0 ≤ cc) (hc1 : cc ≤ 99) :
    Calls Tryz.prog 56 #[.agg #[.string sg, .int .i64 m, .int .i64 cc]] w fun e w' => ∃ N : Int, e = .returned (.int .i64 N) ∧ Below w.heap.size w w' ∧ (0 ≤ m → m ≤ 20 → (sg = ⟨#[45]⟩ → N = -(100 * m + cc)) ∧ (sg ≠ ⟨#[45]⟩ → N = 100 * m + cc)) := by
  by_cases hm : 0 ≤ m ∧ m ≤ 20
  · obtain ⟨m1, m2⟩ := hm
    by_cases hs : sg = ⟨#[45]⟩
    · subst hs
      go_enter Tryz.func56, Tryz.ntmps56
      go_wp2
      go_ret
      exact ⟨_, rfl, (by repeat (first | assumption | exact Below.refl _ _ | (refine Below.setCell ?_ (by first | omega | (simp; done) | (simp; omega)) _) | apply below_drewN | apply Below.drew | (refine Below.alloc ?_ (by first | omega | (simp; done) | (simp; omega)) _))), fun _ _ => ⟨fun _ => rfl, fun h => absurd rfl h⟩⟩
    · have gf := strF1 hs
      have HS := Lib.hid hs
      clear hs
      go_enter Tryz.func56, Tryz.ntmps56
      go_wp2
      go_ret
      exact ⟨_, rfl, (by repeat (first | assumption | exact Below.refl _ _ | (refine Below.setCell ?_ (by first | omega | (simp; done) | (simp; omega)) _) | apply below_drewN | apply Below.drew | (refine Below.alloc ?_ (by first | omega | (simp; done) | (simp; omega)) _))), fun _ _ => ⟨fun h => absurd h HS.out, fun _ => rfl⟩⟩
  · have HM := Lib.hid hm
    clear hm
    by_cases hs : sg = ⟨#[45]⟩
    · subst hs
      go_enter Tryz.func56, Tryz.ntmps56
      go_wp2
      go_ret
      exact ⟨_, rfl, (by repeat (first | assumption | exact Below.refl _ _ | (refine Below.setCell ?_ (by first | omega | (simp; done) | (simp; omega)) _) | apply below_drewN | apply Below.drew | (refine Below.alloc ?_ (by first | omega | (simp; done) | (simp; omega)) _))), fun h1 h2 => absurd ⟨h1, h2⟩ HM.out⟩
    · have gf := strF1 hs
      clear hs
      go_enter Tryz.func56, Tryz.ntmps56
      go_wp2
      go_ret
      exact ⟨_, rfl, (by repeat (first | assumption | exact Below.refl _ _ | (refine Below.setCell ?_ (by first | omega | (simp; done) | (simp; omega)) _) | apply below_drewN | apply Below.drew | (refine Below.alloc ?_ (by first | omega | (simp; done) | (simp; omega)) _))), fun h1 h2 => absurd ⟨h1, h2⟩ HM.out⟩

set_option maxRecDepth 100000 in
set_option maxHeartbeats 3200000 in
theorem rl_impl (s : ByteArray) (w : World) (hs : s.size ≤ 1048576) (env : NumEnv w) (ml : Int) (hml : w.cell? ⟨1, 0, none⟩ = some (.int .i64 ml)) (res : Option Int) (hres : ∀ n, res = some n ↔ isLv n ∧ s = levelB n) :
    Calls Tryz.prog 19 #[.string s] w fun e w' => e = .returned (.tuple #[.int .i64 (res.getD 0), .bool res.isSome]) ∧ Below w.heap.size w w' := by
  have HR := Lib.hid hres
  have HE := Lib.hid env
  have HM := Lib.hid hml
  clear hres env hml
  go_enter Tryz.func19, Tryz.ntmps19
  go_wp2_with fail
  refine (pot_t s _ hs HE.out ml HM.out).mono ?_
  rintro q1 w1 ⟨sg, m, cc, ok, rfl, b1, hP⟩
  obtain ⟨hsg, hok, hno⟩ := hP
  cases ok with
  | false =>
    have hn : res = none := by
      cases hr : res with
      | none => rfl
      | some n => exact absurd (lv_form ((HR.out n).1 hr).1 ((HR.out n).1 hr).2) (hno rfl _ _ _ _ _)
    subst hn
    clear hok hno
    go_wp2
    go_ret2
    exact ⟨rfl, b1.alloc b1.size _⟩
  | true =>
    obtain ⟨c0, rest, a, b, K, rfl, hcc⟩ := hok rfl
    have HK := Lib.hid K
    have hc01 : 0 ≤ cc ∧ cc ≤ 99 := by
      obtain ⟨a1, a2⟩ := K.2.2.2.1
      obtain ⟨b1, b2⟩ := K.2.2.2.2
      omega
    obtain ⟨cc0, cc1⟩ := hc01
    have HCC := Lib.hid hcc
    -- the parts of the level that the text may be
    have HU := Lib.hid (show ∀ n, res = some n → mkB [c0] = signB n ∧ m = ((n.natAbs / 100 : Nat) : Int) ∧ cc = ((n.natAbs % 100 : Nat) : Int) ∧ isLv n from fun n hr => by
      obtain ⟨h1, h2⟩ := (HR.out n).1 hr
      obtain ⟨e1, e2, e3, e4⟩ := K.inj (lv_form h1 h2)
      have t1 := ofNat_dig (n.natAbs % 100 / 10) (by omega)
      have t2 := ofNat_dig (n.natAbs % 10) (by omega)
      refine ⟨?_, e2, by rw [hcc, e3, e4, t1, t2]; omega, h1⟩
      rw [e1]
      unfold signB
      split <;> rfl)
    obtain ⟨SGN, hSGN⟩ : ∃ S, S = mkB [c0] := ⟨_, rfl⟩
    rw [← hSGN] at HU ⊢
    have HSG := Lib.hid hSGN
    clear hok hno K hcc hSGN hsg
    go_wp2_with fail
    refine (lev_t SGN m cc _ cc0 cc1).mono ?_
    rintro q2 w2 ⟨N, rfl, b2, hN⟩
    obtain ⟨k2, f2⟩ := bcell b2
    have s2 : w1.heap.size < w2.heap.size := by have := b2.size; simp at this; omega
    have z0 : w2.cell? ⟨w1.heap.size, 0, none⟩ = some (.string SGN) := (by rw [k2 _ _ (by first | omega | (simp; done) | (simp; omega))]; first | (simp; done) | go_simp); have zf0 : w2.frozen? ⟨w1.heap.size, 0, none⟩ = false := (by rw [f2 _ _ (by first | omega | (simp; done) | (simp; omega))]; first | (simp; done) | go_simp); have z1 : w2.cell? ⟨w1.heap.size, 1, none⟩ = some (.int .i64 m) := (by rw [k2 _ _ (by first | omega | (simp; done) | (simp; omega))]; first | (simp; done) | go_simp); have zf1 : w2.frozen? ⟨w1.heap.size, 1, none⟩ = false := (by rw [f2 _ _ (by first | omega | (simp; done) | (simp; omega))]; first | (simp; done) | go_simp); have z2 : w2.cell? ⟨w1.heap.size, 2, none⟩ = some (.int .i64 cc) := (by rw [k2 _ _ (by first | omega | (simp; done) | (simp; omega))]; first | (simp; done) | go_simp); have zf2 : w2.frozen? ⟨w1.heap.size, 2, none⟩ = false := (by rw [f2 _ _ (by first | omega | (simp; done) | (simp; omega))]; first | (simp; done) | go_simp)
    clear k2 f2
    have d1 : Below w.heap.size w w2 := b1.trans ((show Below w1.heap.size w1 w2 from (by repeat (first | assumption | exact Below.refl _ _ | (refine Below.trans ?_ (b2.mono (by first | omega | (simp; done) | (simp; omega)))) | (refine Below.setCell ?_ (by first | omega | (simp; done) | (simp; omega)) _) | apply below_drewN | apply Below.drew | (refine Below.alloc ?_ (by first | omega | (simp; done) | (simp; omega)) _)))).mono b1.size)
    have HN := Lib.hid (show ∀ n, res = some n → N = n from fun n hr => by
      obtain ⟨e1, e2, e3, h1, h2⟩ := HU.out n hr
      have hN2 := hN (by omega) (by omega)
      rw [e1] at hN2
      by_cases hneg : n < 0
      · have := hN2.1 (by unfold signB; rw [if_pos hneg])
        omega
      · have := hN2.2 (by unfold signB; rw [if_neg hneg]; intro e; injection e with e; injection e with e; injection e with e _; cases e)
        omega)
    clear hN
    by_cases hv : isLv N
    · have hdv : decide (isLv N) = true := decide_eq_true hv
      obtain ⟨v1, v2⟩ := hv
      have HP := Lib.hid (show ∀ W : World, Calls Tryz.prog 52 #[.int .i64 N] W fun e w' => e = .returned (.agg #[.string (signB N), .int .i64 ((N.natAbs / 100 : Nat) : Int), .int .i64 ((N.natAbs % 100 : Nat) : Int)]) ∧ Below W.heap.size W w' from fun W => parts_impl N W v1 v2)
      by_cases heq : signB N = SGN ∧ ((N.natAbs / 100 : Nat) : Int) = m ∧ ((N.natAbs % 100 : Nat) : Int) = cc
      · obtain ⟨q1, q2, q3⟩ := heq
        have hr : res = some N := (HR.out N).2 ⟨⟨v1, v2⟩, lv_back HK.out (by rw [q1]; exact HSG.out) q2.symm (by rw [← HCC.out]; exact q3.symm)⟩
        subst hr
        rw [q1, q2, q3] at HP
        clear q1 q2 q3
        go_wp2_with fail
        go_region_held3 (fun w' => w'.cell? ⟨w1.heap.size, 0, none⟩ = some (.string SGN) ∧ w'.cell? ⟨w1.heap.size, 1, none⟩ = some (.int .i64 m) ∧ w'.cell? ⟨w1.heap.size, 2, none⟩ = some (.int .i64 cc)) (go_keep) (first | (go_at_call 24; refine (vlev_t _ _).mono ?_; rintro e w' ⟨rfl, rfl⟩; rw [hdv]) | (go_at_call 52; refine (HP.out _).mono ?_; rintro e w3 ⟨rfl, b3⟩; have y0 := (b3.cell (p := ⟨w1.heap.size, 0, none⟩) s2).trans z0; have y1 := (b3.cell (p := ⟨w1.heap.size, 1, none⟩) s2).trans z1; have y2 := (b3.cell (p := ⟨w1.heap.size, 2, none⟩) s2).trans z2))
        all_goals (
          go_wp2
          go_ret2
          exact ⟨rfl, let g := b3.mono d1.size; let h := d1.trans (show Below w.heap.size w2 w3 from ⟨g.os, g.tape, g.output, g.size, g.block⟩); ⟨h.os, h.tape, h.output, h.size, h.block⟩⟩)
      · have hn : res = none := by
          cases hr : res with
          | none => rfl
          | some n =>
            have e := HN.out n hr
            obtain ⟨e1, e2, e3, _⟩ := HU.out n hr
            rw [e] at heq
            exact absurd ⟨e1.symm, e2.symm, e3.symm⟩ heq
        subst hn
        obtain ⟨P0, hP0⟩ : ∃ P0, P0 = signB N := ⟨_, rfl⟩
        obtain ⟨P1, hP1⟩ : ∃ P1 : Int, P1 = ((N.natAbs / 100 : Nat) : Int) := ⟨_, rfl⟩
        obtain ⟨P2, hP2⟩ : ∃ P2 : Int, P2 = ((N.natAbs % 100 : Nat) : Int) := ⟨_, rfl⟩
        rw [← hP0, ← hP1, ← hP2] at HP heq
        clear hP0 hP1 hP2 HU HN HK HCC HSG
        by_cases g0 : P0 = SGN
        · rw [g0] at HP heq
          by_cases g1 : P1 = m
          · rw [g1] at HP heq
            have g2 : ¬ P2 = cc := fun e => heq ⟨rfl, rfl, e⟩
            clear heq
            go_wp2_with fail
            go_region_held3 (fun w' => w'.cell? ⟨w1.heap.size, 0, none⟩ = some (.string SGN) ∧ w'.cell? ⟨w1.heap.size, 1, none⟩ = some (.int .i64 m) ∧ w'.cell? ⟨w1.heap.size, 2, none⟩ = some (.int .i64 cc)) (go_keep) (first | (go_at_call 24; refine (vlev_t _ _).mono ?_; rintro e w' ⟨rfl, rfl⟩; rw [hdv]) | (go_at_call 52; refine (HP.out _).mono ?_; rintro e w3 ⟨rfl, b3⟩; have y0 := (b3.cell (p := ⟨w1.heap.size, 0, none⟩) s2).trans z0; have y1 := (b3.cell (p := ⟨w1.heap.size, 1, none⟩) s2).trans z1; have y2 := (b3.cell (p := ⟨w1.heap.size, 2, none⟩) s2).trans z2))
            all_goals (
              go_wp2
              go_ret2
              exact ⟨rfl, let g := b3.mono d1.size; let h := d1.trans (show Below w.heap.size w2 w3 from ⟨g.os, g.tape, g.output, g.size, g.block⟩); ⟨h.os, h.tape, h.output, h.size, h.block⟩⟩)
          · clear heq
            go_wp2_with fail
            go_region_held3 (fun w' => w'.cell? ⟨w1.heap.size, 0, none⟩ = some (.string SGN) ∧ w'.cell? ⟨w1.heap.size, 1, none⟩ = some (.int .i64 m) ∧ w'.cell? ⟨w1.heap.size, 2, none⟩ = some (.int .i64 cc)) (go_keep) (first | (go_at_call 24; refine (vlev_t _ _).mono ?_; rintro e w' ⟨rfl, rfl⟩; rw [hdv]) | (go_at_call 52; refine (HP.out _).mono ?_; rintro e w3 ⟨rfl, b3⟩; have y0 := (b3.cell (p := ⟨w1.heap.size, 0, none⟩) s2).trans z0; have y1 := (b3.cell (p := ⟨w1.heap.size, 1, none⟩) s2).trans z1; have y2 := (b3.cell (p := ⟨w1.heap.size, 2, none⟩) s2).trans z2))
            all_goals (
              go_wp2
              go_ret2
              exact ⟨rfl, let g := b3.mono d1.size; let h := d1.trans (show Below w.heap.size w2 w3 from ⟨g.os, g.tape, g.output, g.size, g.block⟩); ⟨h.os, h.tape, h.output, h.size, h.block⟩⟩)
        · have gf := strF g0
          clear heq
          go_wp2_with fail
          go_region_held3 (fun w' => w'.cell? ⟨w1.heap.size, 0, none⟩ = some (.string SGN) ∧ w'.cell? ⟨w1.heap.size, 1, none⟩ = some (.int .i64 m) ∧ w'.cell? ⟨w1.heap.size, 2, none⟩ = some (.int .i64 cc)) (go_keep) (first | (go_at_call 24; refine (vlev_t _ _).mono ?_; rintro e w' ⟨rfl, rfl⟩; rw [hdv]) | (go_at_call 52; refine (HP.out _).mono ?_; rintro e w3 ⟨rfl, b3⟩; have y0 := (b3.cell (p := ⟨w1.heap.size, 0, none⟩) s2).trans z0; have y1 := (b3.cell (p := ⟨w1.heap.size, 1, none⟩) s2).trans z1; have y2 := (b3.cell (p := ⟨w1.heap.size, 2, none⟩) s2).trans z2))
          all_goals (
            go_wp2
            go_ret2
            exact ⟨rfl, let g := b3.mono d1.size; let h := d1.trans (show Below w.heap.size w2 w3 from ⟨g.os, g.tape, g.output, g.size, g.block⟩); ⟨h.os, h.tape, h.output, h.size, h.block⟩⟩)
    · have hn : res = none := by
        cases hr : res with
        | none => rfl
        | some n =>
          have e := HN.out n hr
          rw [e] at hv
          exact absurd (HU.out n hr).2.2.2 hv
      have hdv : decide (isLv N) = false := decide_eq_false hv
      subst hn
      clear hv HU HN
      go_wp2_with fail
      first | (go_region_with (go_at_call 24; refine (vlev_t _ _).mono ?_; rintro e w' ⟨rfl, rfl⟩; rw [hdv])) | fail
      all_goals (
        go_wp2
        go_ret2
        exact ⟨rfl, ⟨d1.os, d1.tape, d1.output, d1.size, d1.block⟩⟩)

theorem lv_res (s : ByteArray) : ∃ res : Option Int, ∀ n, res = some n ↔ isLv n ∧ s = levelB n := by
  by_cases h : ∃ n, isLv n ∧ s = levelB n
  · obtain ⟨n, hn⟩ := h
    refine ⟨some n, fun m => ⟨fun e => by injection e with e; exact e ▸ hn, fun hm => ?_⟩⟩
    have k1 := lv_form hn.1 hn.2
    have k2 := lv_form hm.1 hm.2
    obtain ⟨e1, e2, e3, e4⟩ := k1.inj k2
    have t1 := ofNat_dig (n.natAbs % 100 / 10) (by omega)
    have t2 := ofNat_dig (n.natAbs % 10) (by omega)
    have u1 := ofNat_dig (m.natAbs % 100 / 10) (by omega)
    have u2 := ofNat_dig (m.natAbs % 10) (by omega)
    rw [e3] at t1
    rw [e4] at t2
    have ha : n.natAbs = m.natAbs := by omega
    have hs : (n < 0) ↔ (m < 0) := by
      by_cases a : n < 0
      · by_cases b : m < 0
        · exact ⟨fun _ => b, fun _ => a⟩
        · rw [if_pos a, if_neg b] at e1; exact absurd e1 (by decide)
      · by_cases b : m < 0
        · rw [if_neg a, if_pos b] at e1; exact absurd e1 (by decide)
        · exact ⟨fun h => absurd h a, fun h => absurd h b⟩
    congr 1
    by_cases a : n < 0
    · have b := hs.1 a; omega
    · have b : ¬ m < 0 := fun h => a (hs.2 h)
      omega
  · exact ⟨none, fun m => ⟨fun e => by simp at e, fun hm => absurd ⟨m, hm⟩ h⟩⟩

theorem ml_of {w : World} (hsh : w.ShapedOpen Tryz.prog) : ∃ m, w.cell? ⟨1, 0, none⟩ = some (.int .i64 m) :=
  Go.Proofs.cell_of_shapedOpen_int (P := Tryz.prog) (g := 1) (t := 3) (zero := #[.int .i64 0]) hsh (of_decide_eq_true (by kernel_rfl)) (by kernel_rfl) rfl (by kernel_rfl) (by kernel_rfl) Tryz.underlying3
end Go.Proofs.YthfemghfkfmkdaaGreatDoor
