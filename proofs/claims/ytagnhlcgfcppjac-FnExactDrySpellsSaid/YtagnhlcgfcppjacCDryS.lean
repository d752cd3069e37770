/- The model's dry spells of some length. -/
import Derived.Test.YtagnhlcgfcppjacDryS
import Derived.Test.YtagnhlcgfcppjacWin
namespace Go.Proofs.Ytagnhlcgfcppjac
open Go.RowKit

set_option maxRecDepth 100000 in
set_option maxHeartbeats 3200000 in
theorem dry_spec (b o n c : Nat) (xs : List Int) (le : Int) (w : World) (hn : n ≤ 1048576) (hok : RainOk n xs) (hp : rsP le) (ra : Rd w w.heap.size (some ⟨b, o, none⟩) n xs) :
    Calls Try.prog 40 #[.slice (some ⟨b, o, none⟩) n c, .int .i64 le] w fun e w' => ∃ A d gs, e = .returned (.tuple #[.slice A (flp le (spN xs n n)).length d, .int .i64 0]) ∧ Below w.heap.size w w' ∧ w'.ownsRow w.heap.size 22 1 (.slice A (flp le (spN xs n n)).length d) (flp le (spN xs n n)).length (gs.map sl2) ∧ Prs w' w.heap.size gs (flp le (spN xs n n)) := by
  have HR := Lib.hid (show rcode n xs (rsP le) = 0 from rcode_ok hok hp)
  have RA := Lib.hid ra
  have HD := Lib.hid (l06Dry_t b o n c xs w hok ra)
  have hlen := spN_len xs n n
  have h120 := hok.2.2
  generalize spN xs n n = L at *
  clear hok hp ra
  go_enter Try.func40, Try.ntmps40
  go_wp2_with (first | (go_at_call 63; refine (l06Code_t _ _ _ xs _ _ hn RA.out).mono ?_; rintro e1 w1 ⟨rfl, rfl⟩; rw [HR.out]) | (go_at_call 75; refine HD.out.mono ?_; rintro e2 w2 ⟨SA, sd, gs, rfl, b2, own2, prs2⟩; have D2 := Lib.hid b2; have OW := Lib.hid own2; have PR := Lib.hid prs2; have z2 := b2.size; clear b2 own2 prs2))
  have OV := Lib.hid (show 0 < L.length → ∃ g, SA = some ⟨g, 0, none⟩ ∧ g < w2.heap.size ∧ ∀ j, j < L.length → w2.cell? ⟨g, j, none⟩ = (gs.map sl2)[j]? from fun h => by
    obtain ⟨g, rfl, hg⟩ := own_vals OW.out h
    exact ⟨g, rfl, (OW.out.lt g rfl).2, hg⟩)
  go_loopw [8, 9] (fun v i wr => ∃ (k : Nat) (gs' : List Nat), k ≤ L.length ∧ i = .int .i64 (k : Int) ∧ Below w2.heap.size w2 wr ∧ Hid (wr.ownsRow w2.heap.size 22 1 v (flp le (L.take k)).length (gs'.map sl2)) ∧ Hid (Prs wr w.heap.size gs' (flp le (L.take k))) ∧ Hid (k < L.length → ∀ t, t < gs'.length → gs'.getD t 0 < gs.getD k 0)) (fun _ i _ => L.length - (intOf i).toNat)
  case atStart => exact ⟨0, [], by omega, rfl, (Below.refl _ _).alloc (Nat.le_refl _) _, World.ownsRow_made _ _ _ (Nat.le_refl _) (by simp [maxLen]) rfl, ⟨rfl, fun j hj => absurd hj (by simp [flp]), fun i j _ hj => absurd hj (by simp [flp])⟩, fun _ t ht => absurd ht (by simp)⟩
  case round =>
    obtain ⟨k, gs', hk, rfl, hb, HO, HP, HL⟩ := hrel
    have hz := hb.size
    by_cases hlt : k < L.length
    · obtain ⟨sg, rfl, hsg, hsc⟩ := OV.out (by omega)
      have cs := (hb.cell (p := ⟨sg, k, none⟩) hsg).trans (hsc k hlt)
      have hgl := PR.out.len
      rw [List.getElem?_map, List.getElem?_eq_getElem (show k < gs.length by omega)] at cs
      have hgk : gs[k] = gs.getD k 0 := by rw [List.getD_eq_getElem?_getD, List.getElem?_eq_getElem (show k < gs.length by omega)]; rfl
      rw [Option.map_some, hgk] at cs
      have PRW := Lib.hid (PR.out.below hb)
      obtain ⟨_, c3, _⟩ := PRW.out.cell hlt
      have hat := PRW.out.at' k hlt
      have HAT := Lib.hid hat
      have htk : L.take (k + 1) = L.take k ++ [L.getD k (0, 0)] := by
        rw [List.take_add_one, List.getElem?_eq_getElem hlt, List.getD_eq_getElem?_getD, List.getElem?_eq_getElem hlt]; rfl
      have HTK := Lib.hid htk
      have hnext : k + 1 < L.length → gs.getD k 0 < gs.getD (k + 1) 0 := fun h => PR.out.ord k (k + 1) (by omega) h
      have HNX := Lib.hid hnext
      have hfl := flp_len le (L.take k)
      have htl : (L.take k).length ≤ k := by rw [List.length_take]; omega
      have HL2 := Lib.hid (HL.out hlt)
      unfold sl2 at cs
      generalize L.getD k (0, 0) = p at *
      obtain ⟨g, hg⟩ : ∃ g, g = gs.getD k 0 := ⟨_, rfl⟩
      rw [← hg] at cs c3 HAT HNX HL2
      clear hgk hat htk hnext hsc hgl HL
      by_cases hm : le ≤ (p.2 : Int)
      · have HY := Lib.hid (flp_yes (ps := L.take k) hm)
        clear hg
        go_wp2_with (at_builtin; refine wpl_appV rfl (.tmp 33) (.tmp 38) rfl wr w2.heap.size (flp le (L.take k)).length wr.heap.size _ _ (sl2 g) rfl rfl (by exact HO.out) rfl rfl (by omega) (by omega) ?_; intro v1 w1 hown1 hg1)
        have hb1 : Below w2.heap.size wr w1 := ((Below.refl _ wr).alloc hz _).grown hg1 (by simp; omega) (fun k hk => (HO.out.lt k hk).1)
        have hne : ∀ gs0 ps0, Prs wr w.heap.size gs0 ps0 → Prs w1 w.heap.size gs0 ps0 := fun gs0 ps0 h => by
          have h1 : Prs (wr.alloc (.cells #[sl2 g] 22)) w.heap.size gs0 ps0 := h.below ((Below.refl _ _).alloc (Nat.le_refl _) _)
          exact h1.grown hg1 (fun j hj => h1.ne (HO.out.alloc _) j hj)
        have hP1 := hne _ _ HP.out
        have hS : Prs wr w.heap.size [g] [p] := ⟨rfl, fun j hj => by
          obtain rfl : j = 0 := by simpa using hj
          exact HAT.out, fun i j hij hj => absurd hj (by simp; omega)⟩
        have hA1 := ((hne _ _ hS).at' 0 (by simp)).2
        have hP2 := prs_put hP1 HAT.out.1 hA1 (fun t ht => HL2.out t (by rw [HP.out.len]; exact ht))
        have hLL : k + 1 < L.length → ∀ t, t < (gs' ++ [g]).length → (gs' ++ [g]).getD t 0 < gs.getD (k + 1) 0 := fun h t ht => by
          rw [getD_snoc]
          have hn1 := HNX.out h
          by_cases e : t < gs'.length
          · rw [if_pos e]; exact Nat.lt_trans (HL2.out t e) hn1
          · rw [if_neg e, if_pos (by simp at ht; omega)]; exact hn1
        go_roundw
        case rel => exact ⟨k + 1, gs' ++ [g], by omega, by go_num, hb.trans hb1, by rw [HTK.out, HY.out]; exact Lib.hid (by simpa using hown1), by rw [HTK.out, HY.out]; exact hP2, hLL⟩
        case measure => simp [intOf]; omega
      · have HY := Lib.hid (flp_no (ps := L.take k) hm)
        clear hg
        go_wp2
        go_roundw
        case rel => exact ⟨k + 1, gs', by omega, by go_num, hb, by rw [HTK.out, HY.out]; exact HO, by rw [HTK.out, HY.out]; exact HP, fun h t ht => Nat.lt_trans (HL2.out t ht) (HNX.out h)⟩
        case measure => simp [intOf]; omega
    · obtain rfl : k = L.length := by omega
      rw [List.take_length] at HO HP
      obtain ⟨A, d, rfl⟩ := own_sl HO.out
      go_wp2
      go_ret2
      exact ⟨A, d, gs', rfl, D2.out.trans (hb.mono z2), own_mono' HO.out z2, HP.out⟩

end Go.Proofs.Ytagnhlcgfcppjac
