/- What each stage lifts: the program's list of stages, and their rates. -/
import Derived.Test.YtlkgbemlagfdjaaMilR
namespace Go.Proofs.Ytlkgbemlagfdjaa
open Go.RowKit

theorem info_stage : (Try.prog.info? 75).map (fun i => (i.zero, i.size, i.bytes)) = some (some (.slice none 0 0), 1, 24) := by kernel_rfl
structure CpSt (g n : Nat) (xss : List (List RMill)) (w : World) (q : Nat) (wr : World) : Prop where
  lt : g < wr.heap.size
  old : ∀ j, q ≤ j → j < n → wr.cell? ⟨g, j, none⟩ = some (.slice none 0 0)
  fz : ∀ j, j < n → wr.frozen? ⟨g, j, none⟩ = false
  new : ∀ j, j < q → ∃ A' c', wr.cell? ⟨g, j, none⟩ = some (.slice A' (mGet xss j).length c') ∧ Rd_Mill w w.heap.size A' (mGet xss j).length (mGet xss j)
theorem CpSt.start (W w : World) (n m : Nat) (xss : List (List RMill)) (E : TypeId) (hm : m = n) : CpSt W.heap.size n xss w 0 (W.alloc (.cells (madeCells (Value.slice none 0 0).cells m) E)) := by
  subst hm
  have h : (W.alloc (.cells (madeCells (Value.slice none 0 0).cells m) E)).heap[W.heap.size]? = some (.cells (madeCells (Value.slice none 0 0).cells m) E (0, 0)) := heap_alloc_new W _
  refine ⟨by simp, fun j _ hj => ?_, fun j hj => frozen_of_row h _, fun j hj => absurd hj (by omega)⟩
  rw [cell_of_row _ _ _ _ _ _ h]
  simp [madeCells, hj, Value.cells, Nat.mod_one]
theorem CpSt.step {g n q : Nat} {xss : List (List RMill)} {w wr : World} (h : CpSt g n xss w q wr) (hq : q < n) {A' : Option Addr} {c' : Nat} (hr : Rd_Mill w w.heap.size A' (mGet xss q).length (mGet xss q)) : CpSt g n xss w (q + 1) (wr.setCell ⟨g, q, none⟩ (.slice A' (mGet xss q).length c')) := by
  refine ⟨by simpa [World.setCell] using h.lt, fun j h1 h2 => ?_, fun j hj => by simpa using h.fz j hj, fun j hj => ?_⟩
  · rw [World.cell?_setCell_other wr _ _ _ (fun e => by have : q = j := (by simp at e); omega)]
    exact h.old j (by omega) h2
  · by_cases e : j = q
    · subst e
      exact ⟨A', c', by rw [World.cell?_setCell_same wr _ _ (h.old j (Nat.le_refl _) hq)], hr⟩
    · obtain ⟨A2, c2, h1, h2⟩ := h.new j (by omega)
      exact ⟨A2, c2, by rw [World.cell?_setCell_other wr _ _ _ (fun e' => e (by have : q = j := (by simp at e'); omega))]; exact h1, h2⟩

set_option maxHeartbeats 1600000 in
theorem stagesOf_t (A : Option Addr) (n c : Nat) (xss : List (List RMill)) (w : World) (hn : n ≤ 1048576) (ha : Rd_MillSS w w.heap.size A n xss) :
    Calls Try.prog 70 #[.slice A n c] w fun e w' => ∃ B d, e = .returned (.slice B n d) ∧ Below w.heap.size w w' ∧ Rd_MillSS w' w'.heap.size B n xss := by
  have hl := ha.1
  have HA := Lib.hid ha
  obtain ⟨i0, hi, hz0, hz1, hz2⟩ := info_parts info_stage
  have hmk := fun W => run_make_rowN (P := Try.prog) 76 75 i0 (.slice none 0 0) Try.underlying76 hi hz0 .i64 .i64 n n (Nat.le_refl _) (by rw [hz2]; omega) (by omega) W
  rw [hz1] at hmk
  obtain ⟨cs, hcs⟩ : ∃ cs, cs = madeCells (Value.slice none 0 0).cells (n * 1) := ⟨_, rfl⟩
  rw [← hcs] at hmk
  have HT := Lib.hid (show CpSt w.heap.size n xss w 0 (w.alloc (.cells cs 75)) by rw [hcs]; exact CpSt.start w w n (n * 1) xss _ (by omega))
  clear ha hi hz0 hz1 hz2 hcs
  go_enter Try.func70, Try.ntmps70
  go_wp2
  go_loopw [4, 5, 11] (fun _ _ i wr => ∃ q : Nat, q ≤ n ∧ i = .int .i64 (q : Int) ∧ Below w.heap.size w wr ∧ Hid (CpSt w.heap.size n xss w q wr)) (fun _ _ i _ => n - (intOf i).toNat)
  case atStart => exact ⟨0, by omega, rfl, (Below.refl _ _).alloc (Nat.le_refl _) _, HT.out⟩
  case round =>
    obtain ⟨q, hq, rfl, hb, hT⟩ := hrel
    have hg := hT.out.lt
    by_cases hlt : q < n
    · obtain ⟨b, off, rfl, hB, hc⟩ := HA.out.2 (by omega)
      obtain ⟨A', c', h1, h3⟩ := hc q hlt
      have c1 := (hb.cell (p := ⟨b, off + q, none⟩) hB).trans h1
      have e1 := hT.out.old q (Nat.le_refl _) hlt
      have e2 := hT.out.fz q hlt
      have ST := Lib.hid (hT.out.step hlt (c' := c') h3)
      clear hc h1 h3
      obtain ⟨l, hl9⟩ : ∃ l, l = (mGet xss q).length := ⟨_, rfl⟩
      rw [← hl9] at c1 ST
      clear hl9
      go_wp2
      go_roundw
      case rel => exact ⟨q + 1, by omega, by go_num, hb.setCell (Nat.le_refl _) _, ST.out⟩
      case measure => simp [intOf]; omega
    · obtain rfl : q = n := by omega
      have hw : Rd_MillSS wr wr.heap.size (some ⟨w.heap.size, 0, none⟩) q xss := ⟨hl, fun _ => ⟨w.heap.size, 0, rfl, hg, fun j hj => by
        obtain ⟨A', c', h1, h2⟩ := hT.out.new j hj
        exact ⟨A', c', by rw [Nat.zero_add]; exact h1, (h2.below hb).mono hb.size⟩⟩⟩
      go_wp2
      go_ret
      first
      | exact ⟨_, _, rfl, hb, hw⟩
      | exact ⟨_, ⟨_, rfl⟩, hb, hw⟩

set_option maxRecDepth 100000 in
set_option maxHeartbeats 1600000 in
theorem ratesS_t (A : Option Addr) (n c : Nat) (xss : List (List RMill)) (f : Int) (w : World) (ha : Rd_MillSS w w.heap.size A n xss) (hs : stOk n xss) (hf : fcOk f) (L : List Int) (hL : L = smL f xss n) :
    Calls Try.prog 69 #[.slice A n c, .int .i64 f] w fun e w' => ∃ B d, e = .returned (.slice B n d) ∧ Below w.heap.size w w' ∧ Wr w' w.heap.size B n L := by
  have HA := Lib.hid ha
  have HS := Lib.hid hs
  have HL := Lib.hid hL
  have HF := Lib.hid hf
  have hn4 := hs.2.2
  have hm : ∀ (A' : Option Addr) (l c' : Nat) (j : Nat) (w : World), (method (j + 1) 75 (.slice A' l c') "loop.example/g01032/impl.rateAt").run Try.prog w = .ok (136, .slice A' l c') w := fun _ _ _ _ _ => by kernel_rfl
  obtain ⟨i0, hi, hz0, hz1, hz2⟩ := info_parts info_i64
  have hmk := fun W => run_make_rowN (P := Try.prog) 39 2 i0 (.int .i64 0) Try.underlying39 hi hz0 .i64 .i64 n n (Nat.le_refl _) (by rw [hz2]; omega) (by omega) W
  rw [hz1] at hmk
  obtain ⟨cs, hcs⟩ : ∃ cs, cs = madeCells (Value.int .i64 0).cells (n * 1) := ⟨_, rfl⟩
  rw [← hcs] at hmk
  have hN := Lib.hid (show Half n w.heap.size 0 (fun k => smR f (mGet xss k)) (List.replicate n 0) 0 (w.alloc (.cells cs 2)) by rw [hcs]; exact Half.new w n _ _ (n * 1) (by omega))
  clear ha hs hL hf hi hz0 hz1 hz2 hcs
  go_enter Try.func69, Try.ntmps69
  go_wp2
  go_loopw [6, 7, 13] (fun _ _ i wr => ∃ q : Nat, q ≤ n ∧ i = .int .i64 (q : Int) ∧ Below w.heap.size w wr ∧ w.heap.size < wr.heap.size ∧ Hid (Half n w.heap.size 0 (fun k => smR f (mGet xss k)) (List.replicate n 0) q wr)) (fun _ _ i _ => n - (intOf i).toNat)
  case atStart => exact ⟨0, by omega, rfl, (Below.refl _ _).alloc (Nat.le_refl _) _, by simp, hN.out⟩
  case round =>
    obtain ⟨q, hq, rfl, hb, hz, hH⟩ := hrel
    by_cases hlt : q < n
    · obtain ⟨b, off, rfl, hB, hc⟩ := HA.out.2 (by omega)
      obtain ⟨A', c', h1, h3⟩ := hc q hlt
      have c1 := (hb.cell (p := ⟨b, off + q, none⟩) hB).trans h1
      have R1 := Lib.hid (Rd_Mill.mono (h3.below hb) hb.size)
      have HR := Lib.hid (HS.out.1 q hlt)
      clear hc h1 h3
      obtain ⟨rr, hrr⟩ : ∃ rr, rr = smR f (mGet xss q) := ⟨_, rfl⟩
      have HRR := Lib.hid hrr
      clear hrr
      obtain ⟨xs, hx⟩ : ∃ xs, xs = mGet xss q := ⟨_, rfl⟩
      have HX := Lib.hid hx
      rw [← hx] at c1 R1 HR
      obtain ⟨l, hl9⟩ : ∃ l, l = xs.length := ⟨_, rfl⟩
      rw [← hl9] at c1 R1
      clear hx hl9
      go_wp2_with (go_at_call 136; refine (stageRate_t A' l c' xs f _ (Rd_Mill.mono (R1.out.below (by repeat (first | assumption | exact Below.refl _ _ | (refine Below.setCell ?_ (by first | omega | (simp; done) | (simp; omega)) _) | apply below_drewN | apply Below.drew | (refine Below.alloc ?_ (by first | omega | (simp; done) | (simp; omega)) _)))) (by first | omega | (simp; done) | (simp; omega))) HR.out HF.out rr (by rw [HRR.out, HX.out])).mono ?_; rintro e1 w1 ⟨rfl, b1⟩; have d1 : Below wr.heap.size wr w1 := (by repeat (first | assumption | exact Below.refl _ _ | (refine Below.trans ?_ (b1.mono (by first | omega | (simp; done) | (simp; omega)))) | (refine Below.setCell ?_ (by first | omega | (simp; done) | (simp; omega)) _) | apply below_drewN | apply Below.drew | (refine Below.alloc ?_ (by first | omega | (simp; done) | (simp; omega)) _))); have h1 := hH.out.below d1 hz; obtain ⟨g1, g2⟩ := h1 q hlt; rw [Nat.zero_add] at g1 g2; have z1 := d1.size)
      go_roundw
      case rel => exact ⟨q + 1, by omega, by go_num, (hb.trans (d1.mono (by omega))).setCell (Nat.le_refl _) _, by simp [World.setCell]; omega, by have := h1.step rr HRR.out; rw [Nat.zero_add] at this; exact this⟩
      case measure => simp [intOf]; omega
    · obtain rfl : q = n := by omega
      have hw := hH.out.done (base := w.heap.size) (ys := L) (by rw [HL.out, smL_len]) (fun j hj => by rw [HL.out]; exact smL_at f xss q j hj) (Nat.le_refl _) hz
      go_wp2
      go_ret
      first
      | exact ⟨_, _, rfl, hb, hw⟩
      | exact ⟨_, ⟨_, rfl⟩, hb, hw⟩

end Go.Proofs.Ytlkgbemlagfdjaa
