/- RunBreach's hours in the program. -/
import Derived.Test.YtckhfkgldemcnaaDoorRbP
import Derived.Test.YtckhfkgldemcnaaDoorBreX
import Derived.Test.YtckhfkgldemcnaaDoorBreY
namespace Go.Proofs.YtckhfkgldemcnaaDoor
open Go.RowKit

theorem Chg.wide {lo hi hi' : Nat} {w X : World} (h : Chg lo hi w X) (hh : hi ≤ hi') : Chg lo hi' w X :=
  ⟨h.os, h.tape, h.output, h.size, fun k hk hl => h.block k hk (by omega)⟩
theorem Chg.thenX {lo hi B : Nat} {w X V : World} (h : Chg lo hi w X) (hb : Below B X V) (hB : w.heap.size ≤ B) : Chg lo hi w V :=
  ⟨hb.os.trans h.os, hb.tape.trans h.tape, hb.output.trans h.output, Nat.le_trans h.size hb.size, fun k hk hl => (hb.block k (by omega)).trans (h.block k hk hl)⟩
/-- the states before the hours 0 .. k - 1 -/
def stF (ls vs : List Int) (a b c : Int) (ys : List Int) (st : Nat → Int) (k : Nat) : List RBreach := (List.range k).map fun j => ⟨(itB ls vs a b c ys st j).a, b, (itB ls vs a b c ys st j).c⟩
theorem stF_succ (ls vs : List Int) (a b c : Int) (ys : List Int) (st : Nat → Int) (k : Nat) : stF ls vs a b c ys st (k + 1) = stF ls vs a b c ys st k ++ [⟨(itB ls vs a b c ys st k).a, b, (itB ls vs a b c ys st k).c⟩] := by
  unfold stF
  rw [List.range_succ, List.map_append]
  rfl
theorem stF_cons (ls vs : List Int) (a b c : Int) (ys : List Int) (st : Nat → Int) (k : Nat) : stF ls vs a b c ys st (k + 1) = ⟨a, b, c⟩ :: stN ls vs a b c ys st k := by
  unfold stF stN
  rw [List.range_succ_eq_map, List.map_cons, List.map_map]
  rfl
/-- the polder after k hours, with j states -/
structure RQ (X : World) (bk : Nat) (A0 : Option Addr) (n0 k0 : Nat) (ls : List Int) (A1 : Option Addr) (n1 k1 : Nat) (vs : List Int) (a b c : Int) (O : Option Addr) (no ko : Nat) (T : Option Addr) (nt kt : Nat) (ys : List Int) (st : Nat → Int) (k j : Nat) (W : World) : Prop where
  ch : Chg bk (bk + 2) X W
  pb : PBox W bk (itB ls vs a b c ys st k).a b (itB ls vs a b c ys st k).c A0 n0 k0 A1 n1 k1 (.slice O no ko) (.slice T nt kt) (k : Int) (itB ls vs a b c ys st k).z
  row : ∃ v, W.cell? ⟨bk + 1, 0, none⟩ = some v ∧ W.frozen? ⟨bk + 1, 0, none⟩ = false ∧ W.ownsRow (X.heap.size + 1) 32 3 v j (csBreach (stF ls vs a b c ys st j))

set_option maxRecDepth 100000 in
set_option maxHeartbeats 1600000 in
theorem clR_t (bk B : Nat) (a b c hv zv : Int) (A0 : Option Addr) (n0 k0 : Nat) (A1 : Option Addr) (n1 k1 : Nat) (ov tv : Value) (w : World) (pb : PBox w bk a b c A0 n0 k0 A1 n1 k1 ov tv hv zv) (hsb : bk + 1 < B) (hB : B ≤ w.heap.size) (S : Option Addr) (n cp : Nat) (xs : List RBreach) (hc : w.cell? ⟨bk + 1, 0, none⟩ = some (.slice S n cp)) (hf : w.frozen? ⟨bk + 1, 0, none⟩ = false) (hown : w.ownsRow B 32 3 (.slice S n cp) n (csBreach xs)) (hn : n ≤ 1000) :
    Calls Tryd.prog 61 #[.pointer (some ⟨bk + 1, 0, none⟩), .pointer (some ⟨bk, 0, none⟩)] w fun e w' => e = .returned (.bool true) ∧ ∃ w1 v1, w' = w1.setCell ⟨bk + 1, 0, none⟩ v1 ∧ Below B w w1 ∧ w1.ownsRow B 32 3 v1 (n + 1) (csBreach (xs ++ [⟨a, b, c⟩])) := by
  obtain ⟨sz, ⟨x0, x1, x2, _⟩, _⟩ := pb
  have HO := Lib.hid hown
  clear hown
  go_enter Tryd.func61, Tryd.ntmps61
  go_wp2_with (at_builtin; refine wplApp1Breach rfl _ _ rfl _ _ rfl _ _ _ xs a b c rfl HO.out rfl (by omega) (by omega) ?_; intro v1 w1 hown1 hb1 hz1; obtain ⟨g, cap, rfl, _⟩ := own_form' hown1 (by omega); have c1 := (hb1.cell (p := ⟨bk + 1, 0, none⟩) hsb).trans hc; have f1 := (hb1.frozen (p := ⟨bk + 1, 0, none⟩) hsb).trans hf; have OW := Lib.hid hown1; clear hown1)
  go_ret
  exact ⟨rfl, w1, _, rfl, hb1, OW.out⟩

set_option maxHeartbeats 1600000 in
theorem rq_pass {X : World} {bk : Nat} {A0 : Option Addr} {n0 k0 : Nat} {ls : List Int} {A1 : Option Addr} {n1 k1 : Nat} {vs : List Int} {a b c : Int} {O : Option Addr} {no ko : Nat} {T : Option Addr} {nt kt : Nat} {ys : List Int} {st : Nat → Int} {se0 se1 : Addr} (R : RunOk X bk A0 n0 k0 ls A1 n1 k1 vs a b c O no ko T nt kt ys st se0 se1) (hX : X.heap.size = bk + 2) (k j : Nat) (W : World) (hk : k < no) (q : RQ X bk A0 n0 k0 ls A1 n1 k1 vs a b c O no ko T nt kt ys st k j W) :
    Calls Tryd.prog 57 #[.pointer (some ⟨bk, 0, none⟩)] W fun e W' => e = .returned (.tuple #[]) ∧ RQ X bk A0 n0 k0 ls A1 n1 k1 vs a b c O no ko T nt kt ys st (k + 1) j W' ∧ Chg bk (bk + 1) W W' := by
  have hsz := R.pb.sz
  have hl := R.ro.1
  obtain ⟨h1, h2, h3⟩ := itB_ok R.br R.hh k (by omega)
  obtain ⟨g1, g2⟩ := R.hh k (by omega)
  obtain ⟨ob, oo, hO, hob, hoc⟩ := R.ro.2 (by omega)
  obtain ⟨tb, tq, hT, htb, htc⟩ := R.hT k hk
  have hd : Below bk X W := q.ch.below (Nat.le_refl _) (by omega)
  have hn := R.lno
  have hs := q.ch.size
  refine (pass_t bk A0 n0 k0 ls A1 n1 k1 vs (itB ls vs a b c ys st k).a b (itB ls vs a b c ys st k).c (itB ls vs a b c ys st k).z O no ko T nt kt k (ys.getD k 0) (st k) W q.pb R.ln0 R.ln1 (q.ch.rd R.ra (by omega)) (q.ch.rd R.rb (by omega)) h1 g1 g2 (by omega) R.nt2 hk (by have := R.lnt; omega)
    ⟨ob, oo, hO, hob, (q.ch.cell (by omega) (.inl hob)).trans (hoc k hk)⟩ ⟨tb, tq, hT, htb, (q.ch.cell (by omega) (.inl htb)).trans htc⟩ ⟨h2, h3⟩ _ _ _ rfl rfl rfl se0 se1 (R.se.below hd)).mono ?_
  rintro e W' ⟨rfl, c1, p1⟩
  obtain ⟨v, y0, y1, y2⟩ := q.row
  have hb1 : W'.heap[bk + 1]? = W.heap[bk + 1]? := c1.block (bk + 1) (by omega) (.inr (by omega))
  exact ⟨rfl, ⟨q.ch.comp (c1.wide (by omega)), by
    rw [show (((k + 1 : Nat) : Int)) = (k : Int) + 1 by omega]
    exact p1, v, (World.cell?_of_block (w := W) (a := ⟨bk + 1, 0, none⟩) hb1).trans y0, (World.frozen?_of_block (w := W) (a := ⟨bk + 1, 0, none⟩) hb1).trans y1, own_block y2 (fun i hi hl => c1.block i hl (.inr (by omega)))⟩, c1⟩

set_option maxHeartbeats 1600000 in
theorem runR_t (X : World) (bk : Nat) (A0 : Option Addr) (n0 k0 : Nat) (ls : List Int) (A1 : Option Addr) (n1 k1 : Nat) (vs : List Int) (a b c : Int) (O : Option Addr) (no ko : Nat) (T : Option Addr) (nt kt : Nat) (ys : List Int) (st : Nat → Int) (se0 se1 : Addr) (R : RunOk X bk A0 n0 k0 ls A1 n1 k1 vs a b c O no ko T nt kt ys st se0 se1) (hX : X.heap.size = bk + 2) (hc : X.cell? ⟨bk + 1, 0, none⟩ = some (.slice none 0 0)) (hf : X.frozen? ⟨bk + 1, 0, none⟩ = false) :
    Calls Tryd.prog 60 #[.pointer (some ⟨bk, 0, none⟩), .func (.func 61) #[] #[.pointer (some ⟨bk + 1, 0, none⟩), .pointer (some ⟨bk, 0, none⟩)]] X fun e W' => ∃ g cap, e = .returned (.bool true) ∧ Chg bk (bk + 2) X W' ∧ W'.cell? ⟨bk + 1, 0, none⟩ = some (.slice (some ⟨g, 0, none⟩) (no + 1) cap) ∧ W'.ownsRow (X.heap.size + 1) 32 3 (.slice (some ⟨g, 0, none⟩) (no + 1) cap) (no + 1) (csBreach (stF ls vs a b c ys st (no + 1))) := by
  have hsz := R.pb.sz
  have hno := R.lno
  refine (lasts_t bk 61 #[.pointer (some ⟨bk + 1, 0, none⟩), .pointer (some ⟨bk, 0, none⟩)] no (fun _ => true) (fun k => RQ X bk A0 n0 k0 ls A1 n1 k1 vs a b c O no ko T nt kt ys st k k) (fun k => RQ X bk A0 n0 k0 ls A1 n1 k1 vs a b c O no ko T nt kt ys st k (k + 1)) X hsz (fun _ => by kernel_rfl) ?_ ?_ ?_ ?_ ?_ ?_).mono ?_
  · intro k W q
    obtain ⟨_, ⟨_, _, _, _, _, _, _, x7, _⟩, _⟩ := q.pb
    unfold hrs
    rw [x7]
    simp [intOf]
  · have A : Below X.heap.size X (X.alloc (.cells #[.bool false] 4)) := Below.alloc (Below.refl _ _) (Nat.le_refl _) _
    exact ⟨(Chg.refl' _ _ _).thenB A, R.pb.below A, _, (A.cell (p := ⟨bk + 1, 0, none⟩) (show bk + 1 < X.heap.size by omega)).trans hc, (A.frozen (p := ⟨bk + 1, 0, none⟩) (show bk + 1 < X.heap.size by omega)).trans hf, World.ownsRow_nil _ _ _ _⟩
  · intro k W m q
    obtain ⟨v, y0, y1, y2⟩ := q.row
    exact ⟨q.ch.thenB (below_drewN (Below.refl _ _) m), q.pb.below (below_drewN (Below.refl _ _) m), v, y0, y1, y2⟩
  · intro k W hk hs q
    obtain ⟨v, y0, y1, y2⟩ := q.row
    obtain ⟨S, cp, rfl, _⟩ := own_wrBreach y2
    refine (clR_t bk (X.heap.size + 1) _ b _ _ _ A0 n0 k0 A1 n1 k1 _ _ W q.pb (by omega) (by omega) S k cp _ y0 y1 y2 (by omega)).mono ?_
    rintro e W' ⟨rfl, w1, v1, rfl, b1, o1⟩
    have hs1 := b1.size
    have hz : (w1.setCell ⟨bk + 1, 0, none⟩ v1).heap.size = w1.heap.size := by simp [World.setCell]
    have hblk : ∀ i, i ≠ bk + 1 → (w1.setCell ⟨bk + 1, 0, none⟩ v1).heap[i]? = w1.heap[i]? := fun i hi => Below.heap_setCell _ _ _ _ hi
    have hcX := q.ch.size
    refine ⟨rfl, ⟨(q.ch.thenX b1 (by omega)).set (p := ⟨bk + 1, 0, none⟩) (by show bk ≤ bk + 1; omega) (by show bk + 1 < bk + 2; omega) v1, q.pb.eq (by omega) ((hblk bk (by omega)).trans (b1.block bk (by omega))), v1, World.cell?_setCell_same _ _ _ ((b1.cell (p := ⟨bk + 1, 0, none⟩) (show bk + 1 < X.heap.size + 1 by omega)).trans y0), ?_, ?_⟩, ?_, by omega⟩
    · rw [World.frozen?_setCell]
      exact (b1.frozen (p := ⟨bk + 1, 0, none⟩) (show bk + 1 < X.heap.size + 1 by omega)).trans y1
    · rw [stF_succ]
      exact own_block o1 (fun i hi _ => hblk i (by omega))
    · exact (hblk _ (by omega)).trans (b1.block _ (by omega))
  · intro k W hk hs q
    refine (rq_pass R hX k (k + 1) W hk q).mono ?_
    rintro e W' ⟨h1, q1, c1⟩
    exact ⟨h1, q1, c1.block _ hs (.inr (by omega)), c1.size⟩
  · intro W hs q
    refine (pass_x bk A0 n0 k0 ls A1 n1 k1 vs _ b _ _ O no ko T nt kt no W q.pb (by have := R.lno; omega) rfl).mono ?_
    rintro e W' ⟨h1, m, h2⟩
    exact ⟨h1, m, h2⟩
  · rintro e W' ⟨W, v, k, h1, c1, q, h2, h3, h4, h5⟩
    obtain ⟨rfl, rfl⟩ : v = true ∧ k = no := by
      rcases h5 with ⟨_, h⟩ | ⟨h, h', _⟩
      · cases h
      · exact ⟨h, h'⟩
    obtain ⟨v, y0, y1, y2⟩ := q.row
    obtain ⟨g, cap, rfl, _⟩ := own_form' y2 (by omega)
    have hs := q.ch.size
    exact ⟨g, cap, h1, ⟨c1.os.trans q.ch.os, c1.tape.trans q.ch.tape, c1.output.trans q.ch.output, Nat.le_trans q.ch.size c1.size, fun i hi hl => (c1.block i (Nat.lt_of_lt_of_le hi q.ch.size) (.inl hi)).trans (q.ch.block i hi hl)⟩, (World.cell?_of_block (w := W) (a := ⟨bk + 1, 0, none⟩) (c1.block (bk + 1) (by omega) (.inl (by omega)))).trans y0, own_block y2 (fun i hi hl => c1.block i hl (.inr (by omega)))⟩

end Go.Proofs.YtckhfkgldemcnaaDoor
