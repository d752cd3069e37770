/- The states of a sluice: the program's. -/
import Derived.Test.YtcimigaimlojlaaRunT
import Derived.Test.YtcimigaimlojlaaHrI
import Derived.Test.YtcimigaimlojlaaStepJ
import Derived.OwnWalkIn
namespace Go.Proofs.Ytcimigaimlojlaa
open Go.RowKit Go.Shelf

/-- the state, the states and the code behind some hours -/
def rfS (wd sl : Int) (os xs ys : List Int) (pre : List Nat) : RGate × List RGate × Int :=
  pre.foldl (fun s k => (nxN wd sl (os.getD k 0) (xs.getD k 0) (ys.getD k 0) s.1, s.2.1 ++ [nxN wd sl (os.getD k 0) (xs.getD k 0) (ys.getD k 0) s.1], if s.2.2 = 0 then stC wd sl (os.getD k 0) (xs.getD k 0) (ys.getD k 0) s.1 else s.2.2)) (zGate, [], 0)
theorem rfS_snoc (wd sl : Int) (os xs ys : List Int) (pre : List Nat) (k : Nat) : rfS wd sl os xs ys (pre ++ [k]) = (nxN wd sl (os.getD k 0) (xs.getD k 0) (ys.getD k 0) (rfS wd sl os xs ys pre).1, (rfS wd sl os xs ys pre).2.1 ++ [nxN wd sl (os.getD k 0) (xs.getD k 0) (ys.getD k 0) (rfS wd sl os xs ys pre).1], if (rfS wd sl os xs ys pre).2.2 = 0 then stC wd sl (os.getD k 0) (xs.getD k 0) (ys.getD k 0) (rfS wd sl os xs ys pre).1 else (rfS wd sl os xs ys pre).2.2) := by
  unfold rfS
  rw [List.foldl_append]
  rfl
theorem rfS_range (wd sl : Int) (os xs ys : List Int) : ∀ n, rfS wd sl os xs ys (List.range n) = (rgN wd sl os xs ys n, rlN wd sl os xs ys n, reN wd sl os xs ys n) := by
  intro n
  induction n with
  | zero => rfl
  | succ n ih => rw [List.range_succ, rfS_snoc, ih, rl_succ]; rfl
theorem stC_ok {wd sl ord i o : Int} {g : RGate} (h : stC wd sl ord i o g = 0) : gtOk (nxN wd sl ord i o g).f1 (nxN wd sl ord i o g).f2 := by
  unfold stC at h
  by_cases f : ord = 1 ∧ i ≤ o
  · rw [if_pos f] at h;omega
  · rw [if_neg f] at h
    by_cases q : gtOk (nxN wd sl ord i o g).f1 (nxN wd sl ord i o g).f2
    · exact q
    · rw [if_neg q] at h;omega

theorem own_kept {W W' : World} {b s n : Nat} {e : TypeId} {v : Value} {xs : List Value} {row : Option Nat} (h : W.ownsRow b e s v n xs) (hg : W.grownBy W' row) (hr : ∀ r, row = some r → ∃ o : Obj, W.heap[r]? = some o ∧ o.isCells = false) : W'.ownsRow b e s v n xs := by
  refine h.kept hg ?_
  cases hv : v.ownBlock with
  | none => exact .inl rfl
  | some g =>
    refine .inr (fun e => ?_)
    obtain ⟨o, ho, hc⟩ := hr g e.symm
    rcases h.2 with ⟨rfl, _⟩ | ⟨g', cap, cur, rfl, _, hgg, _⟩
    · simp [Value.ownBlock] at hv
    · simp [Value.ownBlock] at hv
      subst hv
      rw [hgg] at ho
      cases ho
      cases hc

theorem wplIn_appG {F : Fence} {n : Nat} {ops : Array Oper} {rest : List Oper} {o : Oper} {a : Act} {Q : Exit → Act → World → Prop} (hgd : o.guard = none) (s x : Operand)
    (ho : o.op = .call { callee := .builtin .append, args := #[s, x], argTypes := #[38, 38] }) (W : World) (base m : Nat) (v : Value) (xs : List RGate) (x0 : Bool) (x1 x2 : Int) (g : Nat)
    (hs : a.eval s = v) (hown : W.ownsRow base 31 3 v m (csGate xs)) (hx : a.eval x = .slice (some ⟨g, 0, none⟩) 1 1) (c0 : W.cell? ⟨g, 0, none⟩ = some (.bool x0)) (c1 : W.cell? ⟨g, 1, none⟩ = some (.int .i64 x1)) (c2 : W.cell? ⟨g, 2, none⟩ = some (.int .i64 x2)) (hm : m ≤ 1048576) (hbase : base ≤ W.heap.size)
    (h : ∀ v' w', w'.ownsRow base 31 3 v' (m + 1) (csGate (xs ++ [⟨x0, x1, x2⟩])) → W.grownBy w' v.ownBlock → wpListIn F n Try.prog ops Q rest (a.put o.dst v') w') : wpListIn F n Try.prog ops Q (o :: rest) a W := by
  obtain ⟨i0, hi, hz0, hz1, hz2⟩ := info_parts info_Gate
  have hnews : ∀ j u, (encGate ⟨x0, x1, x2⟩)[j]? = some u → W.cell? ((⟨g, 0, none⟩ : Addr).add j) = some u := by
    intro j u hj
    rw [addr_add, Nat.zero_add]
    match j with
    | 0 => simp [encGate] at hj; subst hj; exact c0
    | 1 => simp [encGate] at hj; subst hj; exact c1
    | 2 => simp [encGate] at hj; subst hj; exact c2
    | j + 3 => simp [encGate] at hj
  have happ : csGate (xs ++ [⟨x0, x1, x2⟩]) = csGate xs ++ encGate ⟨x0, x1, x2⟩ := by rw [csGate_app]; simp [csGate]
  rw [happ] at h
  exact wpListIn_append_own W hgd s x 38 ho base 31 i0 (.agg #[.bool false, .int .i64 0, .int .i64 0]) 3 24 Try.underlying38 hi hz0 hz1 hz2 rfl (by decide) v m (csGate xs) hs hown ⟨g, 0, none⟩ 1 1 (encGate ⟨x0, x1, x2⟩) hx rfl hnews (by intro u hu; simp [encGate] at hu; rcases hu with rfl | rfl | rfl <;> rfl) (by simp only [maxLen];omega) (by omega) hbase (fun v' w' r1 r2 _ => h v' w' r1 r2)

theorem keeps_own {W W' : World} {b s n : Nat} {e : TypeId} {v : Value} {xs : List Value} (h : W.ownsRow b e s v n xs) (hg : W.grownBy W' v.ownBlock) : KeepsOthers W W' := KeepsOthers.of_grownBy hg fun j o ej hj => by
  rcases h.2 with ⟨rfl, _⟩ | ⟨g, cap, cur, rfl, _, hgb, _⟩
  · simp [Value.ownBlock] at ej
  · obtain rfl : g = j := by simpa [Value.ownBlock] using ej
    rw [hgb] at hj; cases hj; rfl
theorem keeps_cell {W W' : World} {b o : Nat} {v : Value} (h : W.cell? ⟨b, o, none⟩ = some v) (hg : W.grownBy W' (some b)) : KeepsOthers W W' := KeepsOthers.of_grownBy hg fun j o ej hj => by
  cases ej
  obtain ⟨o', h1, h2⟩ := cells_of_cell h
  have h1' : W.heap[b]? = some o' := h1
  rw [h1'] at hj
  cases hj
  exact h2
theorem KeptAt.far {b : Nat} {wd sl : Int} {g : RGate} {W W' : World} {row : Option Nat} (h : KeptAt W b wd sl g) (hg : W.grownBy W' row) (hne : some b ≠ row) : KeptAt W' b wd sl g :=
  ⟨Nat.lt_of_lt_of_le h.lt hg.size, (hg.cell_far ⟨b, 0, none⟩ h.lt hne).trans h.c0, (hg.cell_far ⟨b, 1, none⟩ h.lt hne).trans h.c1, (hg.cell_far ⟨b, 2, none⟩ h.lt hne).trans h.c2, (hg.cell_far ⟨b, 3, none⟩ h.lt hne).trans h.c3, (hg.cell_far ⟨b, 4, none⟩ h.lt hne).trans h.c4, (hg.frozen_far ⟨b, 2, none⟩ h.lt hne).trans h.n2, (hg.frozen_far ⟨b, 3, none⟩ h.lt hne).trans h.n3, (hg.frozen_far ⟨b, 4, none⟩ h.lt hne).trans h.n4⟩

structure RunI (V : World) (wd sl : Int) (k : Nat) (s : RGate × List RGate × Int) (W : World) : Prop where
  E : Below V.heap.size V W
  size : V.heap.size + 4 ≤ W.heap.size
  cs : ∃ v, W.cell? ⟨V.heap.size, 0, none⟩ = some v ∧ W.ownsRow (V.heap.size + 4) 31 3 v k (csGate s.2.1)
  fs : W.frozen? ⟨V.heap.size, 0, none⟩ = false
  kp : KeptAt W (V.heap.size + 1) wd sl s.1
  ok : gtOk s.1.f1 s.1.f2
  code : s.2.2 = 0
  len : s.2.1.length = k
theorem KeptAt.own {b : Nat} {wd sl : Int} {g : RGate} {W W' : World} {row : Option Nat} (h : KeptAt W b wd sl g) (hg : W.grownBy W' row) (hr : ∀ r, row = some r → ∃ o : Obj, W.heap[r]? = some o ∧ o.isCells = false) : KeptAt W' b wd sl g :=
  ⟨Nat.lt_of_lt_of_le h.lt hg.size, cell_kept h.c0 hg hr, cell_kept h.c1 hg hr, cell_kept h.c2 hg hr, cell_kept h.c3 hg hr, cell_kept h.c4 hg hr, (frozen_kept h.c2 hg hr).trans h.n2, (frozen_kept h.c3 hg hr).trans h.n3, (frozen_kept h.c4 hg hr).trans h.n4⟩
theorem RunI.own {V : World} {wd sl : Int} {k : Nat} {s : RGate × List RGate × Int} {W W' : World} {row : Option Nat} (h : RunI V wd sl k s W) (hg : W.grownBy W' row) (hr : ∀ r, row = some r → V.heap.size ≤ r ∧ ∃ o : Obj, W.heap[r]? = some o ∧ o.isCells = false) : RunI V wd sl k s W' := by
  have hr' := fun r e => (hr r e).2
  obtain ⟨v, c, ho⟩ := h.cs
  exact ⟨h.E.grown hg (by have := h.size;omega) (fun k e => (hr k e).1), Nat.le_trans h.size hg.size, ⟨v, cell_kept c hg hr', own_kept ho hg hr'⟩, (frozen_kept c hg hr').trans h.fs, h.kp.own hg hr', h.ok, h.code, h.len⟩
theorem RunI.below {V : World} {wd sl : Int} {k : Nat} {s : RGate × List RGate × Int} {W W' : World} (h : RunI V wd sl k s W) (hb : Below W.heap.size W W') : RunI V wd sl k s W' := by
  have hs := h.size
  obtain ⟨v, c, ho⟩ := h.cs
  exact ⟨h.E.trans (hb.mono (by omega)), Nat.le_trans h.size hb.size, ⟨v, (hb.cell (p := ⟨V.heap.size, 0, none⟩) (show V.heap.size < _ by omega)).trans c, owns_below ho hb⟩, (hb.frozen (p := ⟨V.heap.size, 0, none⟩) (show V.heap.size < _ by omega)).trans h.fs, h.kp.below hb h.kp.lt, h.ok, h.code, h.len⟩

theorem own_low {W : World} {base s n b : Nat} {e : TypeId} {v : Value} {xs : List Value} (h : W.ownsRow base e s v n xs) (hb : b < base) : v.ownBlock = none ∨ v.ownBlock ≠ some b := .inr (fun e => by have := (h.lt b e).1;omega)
theorem RunI.step {V : World} {wd sl : Int} {k : Nat} {s : RGate × List RGate × Int} {W W' : World} (h : RunI V wd sl k s W) (hg : W.grownBy W' (some (V.heap.size + 1))) : Below V.heap.size V W' ∧ V.heap.size + 4 ≤ W'.heap.size ∧ (∃ v, W'.cell? ⟨V.heap.size, 0, none⟩ = some v ∧ W'.ownsRow (V.heap.size + 4) 31 3 v k (csGate s.2.1)) ∧ W'.frozen? ⟨V.heap.size, 0, none⟩ = false := by
  have hs := h.size
  obtain ⟨v, c, ho⟩ := h.cs
  exact ⟨h.E.grown hg (by omega) (fun k e => by cases e;omega), Nat.le_trans hs hg.size, ⟨v, (gb_cell hg (by omega) (by omega)).trans c, ho.kept hg (own_low ho (by omega))⟩, (gb_frozen hg (by omega) (by omega)).trans h.fs⟩
structure RunX (w V : World) (c : Int) (W : World) : Prop where
  B : Below w.heap.size w W
  size : V.heap.size + 4 ≤ W.heap.size
  r0 : W.cell? ⟨w.heap.size + 1 + 1, 0, none⟩ = some (.slice none 0 0)
  r1 : W.cell? ⟨w.heap.size + 1 + 1 + 1, 0, none⟩ = some (.int .i64 c)
  ne : c ≠ 0
theorem RunX.own {w V : World} {c : Int} {W W' : World} {row : Option Nat} (h : RunX w V c W) (hV : w.heap.size ≤ V.heap.size) (hg : W.grownBy W' row) (hr : ∀ r, row = some r → V.heap.size ≤ r ∧ ∃ o : Obj, W.heap[r]? = some o ∧ o.isCells = false) : RunX w V c W' := by
  have hr' := fun r e => (hr r e).2
  exact ⟨h.B.grown hg (by have := h.size;omega) (fun k e => by have := (hr k e).1;omega), Nat.le_trans h.size hg.size, cell_kept h.r0 hg hr', cell_kept h.r1 hg hr', h.ne⟩

attribute [local go_sem] Oper.semAt_some
set_option maxRecDepth 100000 in
set_option maxHeartbeats 12800000 in
theorem run_impl (wd sl : Int) (O A A' : Option Addr) (n co c c' : Nat) (os xs ys : List Int) (w : World) (hs : slOk wd sl) (hh : hrOk n n xs ys) (ho : allIn 0 2 n os) (hO : Rd w w.heap.size O n os) (ha : Rd w w.heap.size A n xs) (hb : Rd w w.heap.size A' n ys)
    (R0 : List RGate) (R1 : Int) (h0 : reN wd sl os xs ys n = 0 → R0 = rlN wd sl os xs ys n) (h0' : reN wd sl os xs ys n ≠ 0 → R0 = []) (h1 : R1 = reN wd sl os xs ys n) :
    Calls Try.prog 18 #[.agg #[.int .i64 wd, .int .i64 sl], .slice O n co, .slice A n c, .slice A' n c'] w fun e w' => ∃ B d, e = .returned (.tuple #[.slice B R0.length d, .int .i64 R1]) ∧ Below w.heap.size w w' ∧ Wr_Gate w' w.heap.size B R0.length R0 := by
  have HV := Lib.hid (show true = decide (slOk wd sl) from (decide_eq_true hs).symm)
  have HS := Lib.hid hs
  have HR := Lib.hid (show true = decide (hrOk n n xs ys) from (decide_eq_true hh).symm)
  have HX := Lib.hid hh.2.1
  have HY := Lib.hid hh.2.2
  have HOK : Hid (true = true ↔ allIn 0 2 n os) := ⟨fun _ => ho, fun _ => rfl⟩
  have HO := Lib.hid ho
  have hn := hh.1.2
  have hn1 : n ≤ 1048576 := by omega
  have HP := Lib.hid hO
  have HA := Lib.hid ha
  have HB := Lib.hid hb
  have H0 := Lib.hid h0
  have H0' := Lib.hid h0'
  have H1 := Lib.hid h1
  clear hs hh ha hb ho hO h0 h0' h1
  have hmx : Try.prog.follows .mixedOrders = true := by kernel_rfl
  refine (callsIn_wide (n := 9)).1 ?_
  refine callsIn_of_wp_marks Try.func18 rfl trivial ?_ rfl
  simp only [Try.ntmps18, List.size_toArray, List.length_cons, List.length_nil, Nat.reduceAdd, Nat.reduceSub, Array.replicate_succ, Array.replicate_zero, List.push_toArray, List.append_toArray, List.nil_append, List.cons_append]
  gi_wp2_with (first | (refine ⟨trivial, ?_⟩; gi_at_call 53; refine (callsIn_wide.2 (areHours_any _ _ _ _ _ _ xs ys _ hn1 hn1 ((HA.out.below (by repeat (first | assumption | exact Below.refl _ _ | (refine Below.setCell ?_ (by first | omega | (simp; done) | (simp; omega)) _) | apply below_drewN | apply Below.drew | (refine Below.alloc ?_ (by first | omega | (simp; done) | (simp; omega)) _)))).mono (by first | omega | (simp; done) | (simp; omega))) ((HB.out.below (by repeat (first | assumption | exact Below.refl _ _ | (refine Below.setCell ?_ (by first | omega | (simp; done) | (simp; omega)) _) | apply below_drewN | apply Below.drew | (refine Below.alloc ?_ (by first | omega | (simp; done) | (simp; omega)) _)))).mono (by first | omega | (simp; done) | (simp; omega))) true HR.out)).mono ?_; rintro e1 W1 ⟨rfl, b1⟩; obtain ⟨k1, f1⟩ := bcell b1; have x0 : W1.cell? ⟨w.heap.size, 0, none⟩ = some (.int .i64 wd) := (by rw [k1 _ _ (by first | omega | (simp; done) | (simp; omega))]; first | (simp; done) | go_simp); have xf0 : W1.frozen? ⟨w.heap.size, 0, none⟩ = false := (by rw [f1 _ _ (by first | omega | (simp; done) | (simp; omega))]; first | (simp; done) | go_simp); have x1 : W1.cell? ⟨w.heap.size, 1, none⟩ = some (.int .i64 sl) := (by rw [k1 _ _ (by first | omega | (simp; done) | (simp; omega))]; first | (simp; done) | go_simp); have xf1 : W1.frozen? ⟨w.heap.size, 1, none⟩ = false := (by rw [f1 _ _ (by first | omega | (simp; done) | (simp; omega))]; first | (simp; done) | go_simp); have y0 : W1.cell? ⟨w.heap.size + 1, 0, none⟩ = some (.slice O n co) := (by rw [k1 _ _ (by first | omega | (simp; done) | (simp; omega))]; first | (simp; done) | go_simp); have yf0 : W1.frozen? ⟨w.heap.size + 1, 0, none⟩ = false := (by rw [f1 _ _ (by first | omega | (simp; done) | (simp; omega))]; first | (simp; done) | go_simp); have z0 : W1.cell? ⟨w.heap.size + 1 + 1, 0, none⟩ = some (.slice none 0 0) := (by rw [k1 _ _ (by first | omega | (simp; done) | (simp; omega))]; first | (simp; done) | go_simp); have zf0 : W1.frozen? ⟨w.heap.size + 1 + 1, 0, none⟩ = false := (by rw [f1 _ _ (by first | omega | (simp; done) | (simp; omega))]; first | (simp; done) | go_simp); have u0 : W1.cell? ⟨w.heap.size + 1 + 1 + 1, 0, none⟩ = some (.int .i64 0) := (by rw [k1 _ _ (by first | omega | (simp; done) | (simp; omega))]; first | (simp; done) | go_simp); have uf0 : W1.frozen? ⟨w.heap.size + 1 + 1 + 1, 0, none⟩ = false := (by rw [f1 _ _ (by first | omega | (simp; done) | (simp; omega))]; first | (simp; done) | go_simp); have d1 : Below w.heap.size w W1 := (by repeat (first | assumption | exact Below.refl _ _ | (refine Below.trans ?_ (b1.mono (by first | omega | (simp; done) | (simp; omega)))) | (refine Below.setCell ?_ (by first | omega | (simp; done) | (simp; omega)) _) | apply below_drewN | apply Below.drew | (refine Below.alloc ?_ (by first | omega | (simp; done) | (simp; omega)) _))); have s1 : w.heap.size + 1 + 1 + 1 < W1.heap.size := (by have := b1.size; (try simp at this);omega); clear k1 f1 b1) | (refine ⟨trivial, ?_⟩; gi_at_call 50; refine (callsIn_wide.2 (areOrders_any _ _ _ os _ hn1 ((HP.out.below (by repeat (first | assumption | exact Below.refl _ _ | (refine Below.setCell ?_ (by first | omega | (simp; done) | (simp; omega)) _) | apply below_drewN | apply Below.drew | (refine Below.alloc ?_ (by first | omega | (simp; done) | (simp; omega)) _)))).mono (by first | omega | (simp; done) | (simp; omega))) true ⟨fun _ => HO.out, fun _ => rfl⟩)).mono ?_; rintro e2 W2 ⟨rfl, b2⟩; have xx0 : W2.cell? ⟨w.heap.size, 0, none⟩ = _ := (b2.cell (p := ⟨w.heap.size, 0, none⟩) (show w.heap.size < _ from (by first | omega | (simp; done) | (simp; omega)))).trans x0; have xxf0 : W2.frozen? ⟨w.heap.size, 0, none⟩ = _ := (b2.frozen (p := ⟨w.heap.size, 0, none⟩) (show w.heap.size < _ from (by first | omega | (simp; done) | (simp; omega)))).trans xf0; have xx1 : W2.cell? ⟨w.heap.size, 1, none⟩ = _ := (b2.cell (p := ⟨w.heap.size, 1, none⟩) (show w.heap.size < _ from (by first | omega | (simp; done) | (simp; omega)))).trans x1; have xxf1 : W2.frozen? ⟨w.heap.size, 1, none⟩ = _ := (b2.frozen (p := ⟨w.heap.size, 1, none⟩) (show w.heap.size < _ from (by first | omega | (simp; done) | (simp; omega)))).trans xf1; have yy0 : W2.cell? ⟨w.heap.size + 1, 0, none⟩ = _ := (b2.cell (p := ⟨w.heap.size + 1, 0, none⟩) (show w.heap.size + 1 < _ from (by first | omega | (simp; done) | (simp; omega)))).trans y0; have yyf0 : W2.frozen? ⟨w.heap.size + 1, 0, none⟩ = _ := (b2.frozen (p := ⟨w.heap.size + 1, 0, none⟩) (show w.heap.size + 1 < _ from (by first | omega | (simp; done) | (simp; omega)))).trans yf0; have zz0 : W2.cell? ⟨w.heap.size + 1 + 1, 0, none⟩ = _ := (b2.cell (p := ⟨w.heap.size + 1 + 1, 0, none⟩) (show w.heap.size + 1 + 1 < _ from (by first | omega | (simp; done) | (simp; omega)))).trans z0; have zzf0 : W2.frozen? ⟨w.heap.size + 1 + 1, 0, none⟩ = _ := (b2.frozen (p := ⟨w.heap.size + 1 + 1, 0, none⟩) (show w.heap.size + 1 + 1 < _ from (by first | omega | (simp; done) | (simp; omega)))).trans zf0; have uu0 : W2.cell? ⟨w.heap.size + 1 + 1 + 1, 0, none⟩ = _ := (b2.cell (p := ⟨w.heap.size + 1 + 1 + 1, 0, none⟩) (show w.heap.size + 1 + 1 + 1 < _ from (by first | omega | (simp; done) | (simp; omega)))).trans u0; have uuf0 : W2.frozen? ⟨w.heap.size + 1 + 1 + 1, 0, none⟩ = _ := (b2.frozen (p := ⟨w.heap.size + 1 + 1 + 1, 0, none⟩) (show w.heap.size + 1 + 1 + 1 < _ from (by first | omega | (simp; done) | (simp; omega)))).trans uf0; have d2 : Below w.heap.size w W2 := (by repeat (first | assumption | exact Below.refl _ _ | (refine Below.trans ?_ (b2.mono (by first | omega | (simp; done) | (simp; omega)))) | (refine Below.trans ?_ (d1.mono (by first | omega | (simp; done) | (simp; omega)))) | (refine Below.setCell ?_ (by first | omega | (simp; done) | (simp; omega)) _) | apply below_drewN | apply Below.drew | (refine Below.alloc ?_ (by first | omega | (simp; done) | (simp; omega)) _))); have s2 : w.heap.size + 1 + 1 + 1 < W2.heap.size := (by have := b2.size; (try simp at this);omega); clear b2) | (refine ⟨trivial, ?_⟩; gi_at_call 41; refine (callsIn_wide.2 (sluI_any _ _ _ _ HV.out)).mono ?_; rintro e3 V ⟨rfl, b3⟩; have pa0 : V.cell? ⟨w.heap.size, 0, none⟩ = _ := (b3.cell (p := ⟨w.heap.size, 0, none⟩) (show w.heap.size < _ from (by first | omega | (simp; done) | (simp; omega)))).trans xx0; have paf0 : V.frozen? ⟨w.heap.size, 0, none⟩ = _ := (b3.frozen (p := ⟨w.heap.size, 0, none⟩) (show w.heap.size < _ from (by first | omega | (simp; done) | (simp; omega)))).trans xxf0; have pa1 : V.cell? ⟨w.heap.size, 1, none⟩ = _ := (b3.cell (p := ⟨w.heap.size, 1, none⟩) (show w.heap.size < _ from (by first | omega | (simp; done) | (simp; omega)))).trans xx1; have paf1 : V.frozen? ⟨w.heap.size, 1, none⟩ = _ := (b3.frozen (p := ⟨w.heap.size, 1, none⟩) (show w.heap.size < _ from (by first | omega | (simp; done) | (simp; omega)))).trans xxf1; have pb0 : V.cell? ⟨w.heap.size + 1, 0, none⟩ = _ := (b3.cell (p := ⟨w.heap.size + 1, 0, none⟩) (show w.heap.size + 1 < _ from (by first | omega | (simp; done) | (simp; omega)))).trans yy0; have pbf0 : V.frozen? ⟨w.heap.size + 1, 0, none⟩ = _ := (b3.frozen (p := ⟨w.heap.size + 1, 0, none⟩) (show w.heap.size + 1 < _ from (by first | omega | (simp; done) | (simp; omega)))).trans yyf0; have pc0 : V.cell? ⟨w.heap.size + 1 + 1, 0, none⟩ = _ := (b3.cell (p := ⟨w.heap.size + 1 + 1, 0, none⟩) (show w.heap.size + 1 + 1 < _ from (by first | omega | (simp; done) | (simp; omega)))).trans zz0; have pcf0 : V.frozen? ⟨w.heap.size + 1 + 1, 0, none⟩ = _ := (b3.frozen (p := ⟨w.heap.size + 1 + 1, 0, none⟩) (show w.heap.size + 1 + 1 < _ from (by first | omega | (simp; done) | (simp; omega)))).trans zzf0; have pd0 : V.cell? ⟨w.heap.size + 1 + 1 + 1, 0, none⟩ = _ := (b3.cell (p := ⟨w.heap.size + 1 + 1 + 1, 0, none⟩) (show w.heap.size + 1 + 1 + 1 < _ from (by first | omega | (simp; done) | (simp; omega)))).trans uu0; have pdf0 : V.frozen? ⟨w.heap.size + 1 + 1 + 1, 0, none⟩ = _ := (b3.frozen (p := ⟨w.heap.size + 1 + 1 + 1, 0, none⟩) (show w.heap.size + 1 + 1 + 1 < _ from (by first | omega | (simp; done) | (simp; omega)))).trans uuf0; have d3 : Below w.heap.size w V := (by repeat (first | assumption | exact Below.refl _ _ | (refine Below.trans ?_ (b3.mono (by first | omega | (simp; done) | (simp; omega)))) | (refine Below.trans ?_ (d2.mono (by first | omega | (simp; done) | (simp; omega)))) | (refine Below.setCell ?_ (by first | omega | (simp; done) | (simp; omega)) _) | apply below_drewN | apply Below.drew | (refine Below.alloc ?_ (by first | omega | (simp; done) | (simp; omega)) _))); have s3 : w.heap.size + 1 + 1 + 1 < V.heap.size := (by have := b3.size; (try simp at this);omega); have s3a : w.heap.size < V.heap.size := (by omega); have s3b : w.heap.size + 1 < V.heap.size := (by omega); have s3c : w.heap.size + 1 + 1 < V.heap.size := (by omega); clear b3) | (refine ⟨trivial, ?_⟩; gi_at_call 40; refine (callsIn_wide.2 (codeFor_k true true _ 0 rfl)).mono ?_; rintro e4 w4 ⟨rfl, rfl⟩) | (refine ⟨trivial, ?_⟩; gi_at_call 54; refine (hours_in Fence.wide _ trivial rfl _ _ _ _ _ _ _).mono ?_; rintro e5 w5 ⟨rfl, rfl⟩))
  obtain ⟨W0, hW0⟩ : ∃ W0, W0 = ((((V.alloc (.cells #[.slice none 0 0] 38)).alloc (.cells #[.int .i64 wd, .int .i64 sl, .bool false, .int .i64 0, .int .i64 0] 77)).alloc (.cells #[.slice A n c] 37)).alloc (.cells #[.slice A' n c'] 37)) := ⟨_, rfl⟩
  have hz : W0.heap.size = V.heap.size + 4 := by rw [hW0]; simp
  have hI0 : RunI V wd sl 0 (rfS wd sl os xs ys []) W0 := by
    refine ⟨by rw [hW0]; exact (by repeat (first | assumption | exact Below.refl _ _ | (refine Below.setCell ?_ (by first | omega | (simp; done) | (simp; omega)) _) | apply below_drewN | apply Below.drew | (refine Below.alloc ?_ (by first | omega | (simp; done) | (simp; omega)) _))), by omega, ⟨.slice none 0 0, by rw [hW0]; go_simp, World.ownsRow_nil _ _ _ _⟩, by rw [hW0]; go_simp, ⟨by omega, by rw [hW0]; go_simp, by rw [hW0]; go_simp, by rw [hW0]; show _ = some (Value.bool false); go_simp, by rw [hW0]; show _ = some (Value.int .i64 0); go_simp, by rw [hW0]; show _ = some (Value.int .i64 0); go_simp, by rw [hW0]; go_simp, by rw [hW0]; go_simp, by rw [hW0]; go_simp⟩, ⟨⟨by show (0 : Int) ≤ 0;omega, by show (0 : Int) ≤ 1000000000;omega⟩, by show (0 : Int) ≤ 0;omega, by show (0 : Int) ≤ 1000000;omega⟩, rfl, rfl⟩
  have q1 : W0.cell? ⟨V.heap.size + 1 + 1, 0, none⟩ = some (.slice A n c) := by rw [hW0]; go_simp
  have q2 : W0.cell? ⟨V.heap.size + 1 + 1 + 1, 0, none⟩ = some (.slice A' n c') := by rw [hW0]; go_simp
  rw [← hW0]
  clear hW0
  refine wpIn_rangeFunc_ownH rfl (by omega) (gf := 74) (lb := #[.pointer (some ⟨V.heap.size + 1 + 1, 0, none⟩), .pointer (some ⟨V.heap.size + 1 + 1 + 1, 0, none⟩)]) rfl trivial (enters_of Try.func74 (by kernel_rfl) rfl)
    (hours_stops Fence.wide 8 trivial rfl (by omega) (V.heap.size + 1 + 1) (V.heap.size + 1 + 1 + 1) V.heap.size (V.heap.size + 2) (V.heap.size + 4) c c' n A A' xs ys (by omega) W0 (by omega) (by omega) (by omega) (by omega) (by omega) q1 q2 (by omega) (((HA.out.below d3).mono (by omega)).below hI0.E) (((HB.out.below d3).mono (by omega)).below hI0.E)) Mid.trans (midK_b (by omega)) (Below.refl _ _) (fun _ => rfl)
    (fun pre W => RunI V wd sl pre.length (rfS wd sl os xs ys (vals pre)) W) (fun c' pre W => c' = .ret ∧ RunX w V (rfS wd sl os xs ys (vals pre)).2.2 W)
    (fun _ _ _ _ hs hg hr => hs.own hg (fun r e => ⟨by have := (hr r e).1;omega, (hr r e).2⟩)) (fun _ _ _ _ _ hs hg hr => ⟨hs.1, hs.2.own (by omega) hg (fun r e => ⟨by have := (hr r e).1;omega, (hr r e).2⟩)⟩) hI0
    (fun x a' W => ∃ Bx, Hr2 (V.heap.size + 4) Bx (xs.getD x.1 0) (ys.getD x.1 0) W ∧ a' = { tmps := #[.agg #[.int .i64 wd, .int .i64 sl], .slice O n co, .slice A n c, .slice A' n c', .pointer (some ⟨w.heap.size, 0, none⟩), .pointer (some ⟨w.heap.size + 1, 0, none⟩), undef, undef, .pointer (some ⟨w.heap.size + 1 + 1, 0, none⟩), .pointer (some ⟨w.heap.size + 1 + 1 + 1, 0, none⟩), .bool true, .int .i64 0, .pointer (some ⟨V.heap.size, 0, none⟩), .pointer (some ⟨V.heap.size + 1, 0, none⟩), .int .i64 (x.1 : Int), .pointer (some ⟨Bx, 0, none⟩), undef, .slice A n c, .slice A' n c', .bool true, .bool true, .slice O n co, .int .i64 (n : Int), .slice A n c, .int .i64 (n : Int), .bool true, .bool true, .bool true, .slice O n co, .bool true, .bool true, .agg #[.int .i64 wd, .int .i64 sl], .bool true, .bool true, .int .i64 0, .int .i64 0, .bool false, undef, .agg #[.int .i64 wd, .int .i64 sl], .agg #[.int .i64 wd, .int .i64 sl, .bool false, .int .i64 0, .int .i64 0], .slice A n c, .slice A' n c', .func (.func 74) #[] #[.pointer (some ⟨V.heap.size + 1 + 1, 0, none⟩), .pointer (some ⟨V.heap.size + 1 + 1 + 1, 0, none⟩)], .int .i64 (x.1 : Int), .agg #[.int .i64 (xs.getD x.1 0), .int .i64 (ys.getD x.1 0)], undef, undef, undef, undef, undef, undef, undef, undef, undef, undef, undef, undef, undef, undef, undef], defers := [] })
    (fun x a' _ _ _ _ h hg hr => by
      obtain ⟨Bx, h, e⟩ := h
      exact ⟨Bx, h.own hg (fun r e => (hr r e).2), e⟩) ?assign ?body ?done ?stop
  case assign =>
    rintro l pre x W K hI hK
    have hsz := hI.size
    dsimp only [encH]
    gi_wp2
    have hA2 : Below W.heap.size W (W.alloc (.cells #[.int .i64 (xs.getD x.1 0), .int .i64 (ys.getD x.1 0)] 72)) := (Below.refl _ _).alloc (Nat.le_refl _) _
    exact hK _ _ ((KeepsOthers.alloc W _).from _) (Mid.of_below (hA2.mono hsz)) (hI.below hA2) ⟨W.heap.size, ⟨hsz, by simp, by simp, by simp⟩, rfl⟩
  case body =>
    rintro l pre ⟨k, hkn⟩ a' W hl ⟨r, hr⟩ hI ⟨Bx, hBx, rfl⟩ hlt
    have hle : V.heap.size + 4 ≤ W.heap.size := hI.size
    have bD : Below W.heap.size W W.drew := ⟨rfl, rfl, rfl, Nat.le_refl _, fun _ _ => rfl⟩
    have hId : RunI V wd sl pre.length (rfS wd sl os xs ys (vals pre)) W.drew := hI.below bD
    obtain ⟨ob, oo, rfl, hob, hoc⟩ := (HP.out.below (d3.trans (hI.E.mono (by omega)))).2 (by omega)
    have oe := hoc k hkn
    clear hoc
    have b0 := hBx.c0
    have b1 := hBx.c1
    have c1 : W.cell? ⟨w.heap.size + 1, 0, none⟩ = some (.slice (some ⟨ob, oo, none⟩) n co) := (hI.E.cell (p := ⟨w.heap.size + 1, 0, none⟩) s3b).trans pb0
    have b0d : W.drew.cell? ⟨Bx, 0, none⟩ = _ := b0
    have b1d : W.drew.cell? ⟨Bx, 1, none⟩ = _ := b1
    have c1d : W.drew.cell? ⟨w.heap.size + 1, 0, none⟩ = _ := c1
    have oed : W.drew.cell? ⟨ob, oo + k, none⟩ = _ := oe
    have hx := HX.out k hkn
    have hy := HY.out k hkn
    have hod := HO.out k hkn
    have hlen := hId.len
    have HGO := Lib.hid hId.ok
    have HCD := Lib.hid hId.code
    have HN := Lib.hid (rfS_snoc wd sl os xs ys (vals pre) k)
    obtain ⟨s, hs⟩ : ∃ s, s = rfS wd sl os xs ys (vals pre) := ⟨_, rfl⟩
    have HSS := Lib.hid hs
    rw [← hs] at hId HGO HCD HN hlen
    obtain ⟨g, L, cd⟩ := s
    obtain ⟨u, hu⟩ : ∃ u, u = xs.getD k 0 := ⟨_, rfl⟩
    obtain ⟨v, hv⟩ : ∃ v, v = ys.getD k 0 := ⟨_, rfl⟩
    obtain ⟨od, hd⟩ : ∃ od, od = os.getD k 0 := ⟨_, rfl⟩
    simp only at b0 b1 b0d b1d HCD hlen ⊢
    rw [← hu] at b0 b0d hx HN
    rw [← hv] at b1 b1d hy HN
    rw [← hd] at oe oed hod HN
    rw [← hu, ← hv]
    obtain ⟨q, hq⟩ : ∃ q, q = stC wd sl od u v g := ⟨_, rfl⟩
    have HQ := Lib.hid hq
    obtain ⟨hx1, hx2⟩ := hx
    obtain ⟨hy1, hy2⟩ := hy
    obtain ⟨hd1, hd2⟩ := hod
    clear hu hv hd hq hs hBx hI b0 b1 c1 oe
    obtain ⟨nx, hnx⟩ : ∃ nx, nx = nxN wd sl od u v g := ⟨_, rfl⟩
    have HNX := Lib.hid hnx
    clear hnx
    by_cases g0 : q = 0
    · have e5 : (q != 0) = false := by simp [g0]
      have HQ0 := Lib.hid g0
      clear g0
      gi_wp2
      refine wpIn_region_any hmx ?_
      change wpAnyIn _ _ _ _ _ _ _ _ _ (World.drew W)
      generalize World.drew W = Wd at bD hId b0d b1d c1d oed ⊢
      refine wpAnyIn_ready (rs := [0, 1, 4]) (by kernel_rfl) (by simp) ?_
      refine AllReadyIn.cons rfl (fun K hK => ?_) (AllReadyIn.cons rfl (fun K hK => ?_) (AllReadyIn.cons rfl (fun K hK => ?_) AllReadyIn.nil))
      · go_simp
        refine hK _ _ ?_
        clear hK K
        refine wpAnyIn_ready (rs := [1, 4]) (by kernel_rfl) (by simp) ?_
        refine AllReadyIn.cons rfl (fun K hK => ?_) (AllReadyIn.cons rfl (fun K hK => ?_) AllReadyIn.nil)
        · go_simp
          refine hK _ _ ?_
          clear hK K
          refine wpAnyIn_ready (rs := [2, 4]) (by kernel_rfl) (by simp) ?_
          refine AllReadyIn.cons rfl (fun K hK => ?_) (AllReadyIn.cons rfl (fun K hK => ?_) AllReadyIn.nil)
          · go_simp
            refine hK _ _ ?_
            clear hK K
            refine wpAnyIn_ready (rs := [3, 4]) (by kernel_rfl) (by simp) ?_
            refine AllReadyIn.cons rfl (fun K hK => ?_) (AllReadyIn.cons rfl (fun K hK => ?_) AllReadyIn.nil)
            · go_simp
              refine hK _ _ ?_
              clear hK K
              refine wpAnyIn_ready (rs := [4]) (by kernel_rfl) (by simp) ?_
              refine AllReadyIn.cons rfl (fun K hK => ?_) AllReadyIn.nil
              go_simp
              refine hK _ _ ?_
              clear hK K
              refine wpAnyIn_ready (rs := [5]) (by kernel_rfl) (by simp) ?_
              refine AllReadyIn.cons rfl (fun K hK => ?_) AllReadyIn.nil
              go_simp
              refine ⟨trivial, ?_⟩
              refine (CallsIn.inRound l (callsIn_wide.2 (step_t (V.heap.size + 1) wd sl u v od g _ hId.kp HS.out HGO.out ⟨by omega, by omega⟩ ⟨by omega, by omega⟩ ⟨by omega, by omega⟩ q HQ.out))).mono ?_
              rintro e1 W1 ⟨rfl, gB, hKp⟩
              refine hK _ _ ?_
              clear hK K
              refine wpAnyIn_ready (rs := [6]) (by kernel_rfl) (by simp) ?_
              refine AllReadyIn.cons rfl (fun K hK => ?_) AllReadyIn.nil
              go_simp
              refine hK _ _ ?_
              clear hK K
              refine wpAnyIn_done (by kernel_rfl) ?_ _
              obtain ⟨E1, z1, ⟨cv, cc, ho1⟩, cf⟩ := hId.step gB
              have K1 := hKp HQ0.out
              rw [← HNX.out] at K1
              clear hKp
              have k2 := K1.c2
              have k3 := K1.c3
              have k4 := K1.c4
              gi_wp2_with (gi_at_builtin; refine wplIn_appG rfl (.tmp 54) (.tmp 57) rfl _ (V.heap.size + 4) pre.length cv L nx.f0 nx.f1 nx.f2 W1.heap.size rfl (by exact ho1.alloc _) rfl (by first | (simp; done) | go_simp) (by first | (simp; done) | go_simp) (by first | (simp; done) | go_simp) (by omega) (by simp;omega) ?_; intro v2 w2 hown2 hg2; have hne2 : some V.heap.size ≠ Value.ownBlock cv := (fun e => by have := (ho1.lt _ e.symm).1;omega); have cc2 := (hg2.cell_far ⟨V.heap.size, 0, none⟩ (by show V.heap.size < (World.alloc _ _).heap.size; simp;omega) hne2).trans ((((Below.refl W1.heap.size W1).alloc (Nat.le_refl _) _).cell (p := ⟨V.heap.size, 0, none⟩) (show V.heap.size < W1.heap.size by omega)).trans cc); have cf2 := (hg2.frozen_far ⟨V.heap.size, 0, none⟩ (by show V.heap.size < (World.alloc _ _).heap.size; simp;omega) hne2).trans ((((Below.refl W1.heap.size W1).alloc (Nat.le_refl _) _).frozen (p := ⟨V.heap.size, 0, none⟩) (show V.heap.size < W1.heap.size by omega)).trans cf); obtain ⟨g2, d2, rfl⟩ := ownsRow_succ hown2)
              have hs2 := hg2.size
              simp only [World.size_alloc] at hs2
              have hne3 : some (V.heap.size + 1) ≠ Value.ownBlock cv := fun e => by have := (ho1.lt _ e.symm).1;omega
              have E2 : Below V.heap.size V w2 := (Below.grown (show Below V.heap.size V _ from E1.alloc (by omega) _) hg2 (by simp;omega) (fun k e => by have := (ho1.lt k e).1;omega))
              refine ⟨(((((keepsOthers_below bD).trans (keeps_cell hId.kp.c0 gB)).trans (KeepsOthers.alloc _ _)).trans (keeps_own (ho1.alloc _) hg2)).trans (KeepsOthers.setCell _ _ _)).from _, ((((Mid.of_below (bD.mono hle)).trans (show Mid V.heap.size (V.heap.size + 2) (V.heap.size + 4) Wd W1 from Mid.of_grown gB (by have := bD.size;omega) (fun k e => by cases e; exact .inl ⟨by omega, by omega⟩))).trans (Mid.of_below ((Below.refl (V.heap.size + 4) W1).alloc z1 _))).trans (Mid.of_grown hg2 (by simp;omega) (fun k e => .inr (ho1.lt k e).1))).setCell (p := ⟨V.heap.size, 0, none⟩) (.inl ⟨Nat.le_refl _, by show V.heap.size < V.heap.size + 2;omega⟩) _, ?_⟩
              show RunI V wd sl (pre ++ [(⟨k, hkn⟩ : HIx n)]).length (rfS wd sl os xs ys (vals (pre ++ [(⟨k, hkn⟩ : HIx n)]))) _
              rw [vals_snoc, HN.out, List.length_append]
              have hcode : (if cd = 0 then stC wd sl od u v g else cd) = 0 := by rw [if_pos HCD.out, ← HQ.out]; exact HQ0.out
              have hok : gtOk (nxN wd sl od u v g).f1 (nxN wd sl od u v g).f2 := stC_ok (HQ.out.symm.trans HQ0.out)
              have hkp := (((K1.alloc (.cells #[.bool nx.f0, .int .i64 nx.f1, .int .i64 nx.f2] 31)).far hg2 hne3).far (gb_setCell w2 ⟨V.heap.size, 0, none⟩ (.slice (some ⟨g2, 0, none⟩) (pre.length + 1) d2)) (fun e => by injection e with e; have : V.heap.size + 1 = V.heap.size := e;omega))
              rw [HNX.out] at hkp hown2
              exact ⟨E2.setCell (p := ⟨V.heap.size, 0, none⟩) (Nat.le_refl _) _, by show V.heap.size + 4 ≤ (World.setCell _ _ _).heap.size; simp [World.setCell];omega, ⟨_, World.cell?_setCell_same _ _ _ cc2, hown2.kept (gb_setCell w2 ⟨V.heap.size, 0, none⟩ _) (own_low hown2 (by show V.heap.size < V.heap.size + 4;omega))⟩, by simpa using cf2, hkp, hok, hcode, by simp [hlen]⟩
            · go_simp
              refine hK _ _ ?_
              clear hK K
              refine wpAnyIn_ready (rs := [3]) (by kernel_rfl) (by simp) ?_
              refine AllReadyIn.cons rfl (fun K hK => ?_) AllReadyIn.nil
              go_simp
              refine hK _ _ ?_
              clear hK K
              refine wpAnyIn_ready (rs := [5]) (by kernel_rfl) (by simp) ?_
              refine AllReadyIn.cons rfl (fun K hK => ?_) AllReadyIn.nil
              go_simp
              refine ⟨trivial, ?_⟩
              refine (CallsIn.inRound l (callsIn_wide.2 (step_t (V.heap.size + 1) wd sl u v od g _ hId.kp HS.out HGO.out ⟨by omega, by omega⟩ ⟨by omega, by omega⟩ ⟨by omega, by omega⟩ q HQ.out))).mono ?_
              rintro e1 W1 ⟨rfl, gB, hKp⟩
              refine hK _ _ ?_
              clear hK K
              refine wpAnyIn_ready (rs := [6]) (by kernel_rfl) (by simp) ?_
              refine AllReadyIn.cons rfl (fun K hK => ?_) AllReadyIn.nil
              go_simp
              refine hK _ _ ?_
              clear hK K
              refine wpAnyIn_done (by kernel_rfl) ?_ _
              obtain ⟨E1, z1, ⟨cv, cc, ho1⟩, cf⟩ := hId.step gB
              have K1 := hKp HQ0.out
              rw [← HNX.out] at K1
              clear hKp
              have k2 := K1.c2
              have k3 := K1.c3
              have k4 := K1.c4
              gi_wp2_with (gi_at_builtin; refine wplIn_appG rfl (.tmp 54) (.tmp 57) rfl _ (V.heap.size + 4) pre.length cv L nx.f0 nx.f1 nx.f2 W1.heap.size rfl (by exact ho1.alloc _) rfl (by first | (simp; done) | go_simp) (by first | (simp; done) | go_simp) (by first | (simp; done) | go_simp) (by omega) (by simp;omega) ?_; intro v2 w2 hown2 hg2; have hne2 : some V.heap.size ≠ Value.ownBlock cv := (fun e => by have := (ho1.lt _ e.symm).1;omega); have cc2 := (hg2.cell_far ⟨V.heap.size, 0, none⟩ (by show V.heap.size < (World.alloc _ _).heap.size; simp;omega) hne2).trans ((((Below.refl W1.heap.size W1).alloc (Nat.le_refl _) _).cell (p := ⟨V.heap.size, 0, none⟩) (show V.heap.size < W1.heap.size by omega)).trans cc); have cf2 := (hg2.frozen_far ⟨V.heap.size, 0, none⟩ (by show V.heap.size < (World.alloc _ _).heap.size; simp;omega) hne2).trans ((((Below.refl W1.heap.size W1).alloc (Nat.le_refl _) _).frozen (p := ⟨V.heap.size, 0, none⟩) (show V.heap.size < W1.heap.size by omega)).trans cf); obtain ⟨g2, d2, rfl⟩ := ownsRow_succ hown2)
              have hs2 := hg2.size
              simp only [World.size_alloc] at hs2
              have hne3 : some (V.heap.size + 1) ≠ Value.ownBlock cv := fun e => by have := (ho1.lt _ e.symm).1;omega
              have E2 : Below V.heap.size V w2 := (Below.grown (show Below V.heap.size V _ from E1.alloc (by omega) _) hg2 (by simp;omega) (fun k e => by have := (ho1.lt k e).1;omega))
              refine ⟨(((((keepsOthers_below bD).trans (keeps_cell hId.kp.c0 gB)).trans (KeepsOthers.alloc _ _)).trans (keeps_own (ho1.alloc _) hg2)).trans (KeepsOthers.setCell _ _ _)).from _, ((((Mid.of_below (bD.mono hle)).trans (show Mid V.heap.size (V.heap.size + 2) (V.heap.size + 4) Wd W1 from Mid.of_grown gB (by have := bD.size;omega) (fun k e => by cases e; exact .inl ⟨by omega, by omega⟩))).trans (Mid.of_below ((Below.refl (V.heap.size + 4) W1).alloc z1 _))).trans (Mid.of_grown hg2 (by simp;omega) (fun k e => .inr (ho1.lt k e).1))).setCell (p := ⟨V.heap.size, 0, none⟩) (.inl ⟨Nat.le_refl _, by show V.heap.size < V.heap.size + 2;omega⟩) _, ?_⟩
              show RunI V wd sl (pre ++ [(⟨k, hkn⟩ : HIx n)]).length (rfS wd sl os xs ys (vals (pre ++ [(⟨k, hkn⟩ : HIx n)]))) _
              rw [vals_snoc, HN.out, List.length_append]
              have hcode : (if cd = 0 then stC wd sl od u v g else cd) = 0 := by rw [if_pos HCD.out, ← HQ.out]; exact HQ0.out
              have hok : gtOk (nxN wd sl od u v g).f1 (nxN wd sl od u v g).f2 := stC_ok (HQ.out.symm.trans HQ0.out)
              have hkp := (((K1.alloc (.cells #[.bool nx.f0, .int .i64 nx.f1, .int .i64 nx.f2] 31)).far hg2 hne3).far (gb_setCell w2 ⟨V.heap.size, 0, none⟩ (.slice (some ⟨g2, 0, none⟩) (pre.length + 1) d2)) (fun e => by injection e with e; have : V.heap.size + 1 = V.heap.size := e;omega))
              rw [HNX.out] at hkp hown2
              exact ⟨E2.setCell (p := ⟨V.heap.size, 0, none⟩) (Nat.le_refl _) _, by show V.heap.size + 4 ≤ (World.setCell _ _ _).heap.size; simp [World.setCell];omega, ⟨_, World.cell?_setCell_same _ _ _ cc2, hown2.kept (gb_setCell w2 ⟨V.heap.size, 0, none⟩ _) (own_low hown2 (by show V.heap.size < V.heap.size + 4;omega))⟩, by simpa using cf2, hkp, hok, hcode, by simp [hlen]⟩
          · go_simp
            refine hK _ _ ?_
            clear hK K
            refine wpAnyIn_ready (rs := [2]) (by kernel_rfl) (by simp) ?_
            refine AllReadyIn.cons rfl (fun K hK => ?_) AllReadyIn.nil
            go_simp
            refine hK _ _ ?_
            clear hK K
            refine wpAnyIn_ready (rs := [3]) (by kernel_rfl) (by simp) ?_
            refine AllReadyIn.cons rfl (fun K hK => ?_) AllReadyIn.nil
            go_simp
            refine hK _ _ ?_
            clear hK K
            refine wpAnyIn_ready (rs := [5]) (by kernel_rfl) (by simp) ?_
            refine AllReadyIn.cons rfl (fun K hK => ?_) AllReadyIn.nil
            go_simp
            refine ⟨trivial, ?_⟩
            refine (CallsIn.inRound l (callsIn_wide.2 (step_t (V.heap.size + 1) wd sl u v od g _ hId.kp HS.out HGO.out ⟨by omega, by omega⟩ ⟨by omega, by omega⟩ ⟨by omega, by omega⟩ q HQ.out))).mono ?_
            rintro e1 W1 ⟨rfl, gB, hKp⟩
            refine hK _ _ ?_
            clear hK K
            refine wpAnyIn_ready (rs := [6]) (by kernel_rfl) (by simp) ?_
            refine AllReadyIn.cons rfl (fun K hK => ?_) AllReadyIn.nil
            go_simp
            refine hK _ _ ?_
            clear hK K
            refine wpAnyIn_done (by kernel_rfl) ?_ _
            obtain ⟨E1, z1, ⟨cv, cc, ho1⟩, cf⟩ := hId.step gB
            have K1 := hKp HQ0.out
            rw [← HNX.out] at K1
            clear hKp
            have k2 := K1.c2
            have k3 := K1.c3
            have k4 := K1.c4
            gi_wp2_with (gi_at_builtin; refine wplIn_appG rfl (.tmp 54) (.tmp 57) rfl _ (V.heap.size + 4) pre.length cv L nx.f0 nx.f1 nx.f2 W1.heap.size rfl (by exact ho1.alloc _) rfl (by first | (simp; done) | go_simp) (by first | (simp; done) | go_simp) (by first | (simp; done) | go_simp) (by omega) (by simp;omega) ?_; intro v2 w2 hown2 hg2; have hne2 : some V.heap.size ≠ Value.ownBlock cv := (fun e => by have := (ho1.lt _ e.symm).1;omega); have cc2 := (hg2.cell_far ⟨V.heap.size, 0, none⟩ (by show V.heap.size < (World.alloc _ _).heap.size; simp;omega) hne2).trans ((((Below.refl W1.heap.size W1).alloc (Nat.le_refl _) _).cell (p := ⟨V.heap.size, 0, none⟩) (show V.heap.size < W1.heap.size by omega)).trans cc); have cf2 := (hg2.frozen_far ⟨V.heap.size, 0, none⟩ (by show V.heap.size < (World.alloc _ _).heap.size; simp;omega) hne2).trans ((((Below.refl W1.heap.size W1).alloc (Nat.le_refl _) _).frozen (p := ⟨V.heap.size, 0, none⟩) (show V.heap.size < W1.heap.size by omega)).trans cf); obtain ⟨g2, d2, rfl⟩ := ownsRow_succ hown2)
            have hs2 := hg2.size
            simp only [World.size_alloc] at hs2
            have hne3 : some (V.heap.size + 1) ≠ Value.ownBlock cv := fun e => by have := (ho1.lt _ e.symm).1;omega
            have E2 : Below V.heap.size V w2 := (Below.grown (show Below V.heap.size V _ from E1.alloc (by omega) _) hg2 (by simp;omega) (fun k e => by have := (ho1.lt k e).1;omega))
            refine ⟨(((((keepsOthers_below bD).trans (keeps_cell hId.kp.c0 gB)).trans (KeepsOthers.alloc _ _)).trans (keeps_own (ho1.alloc _) hg2)).trans (KeepsOthers.setCell _ _ _)).from _, ((((Mid.of_below (bD.mono hle)).trans (show Mid V.heap.size (V.heap.size + 2) (V.heap.size + 4) Wd W1 from Mid.of_grown gB (by have := bD.size;omega) (fun k e => by cases e; exact .inl ⟨by omega, by omega⟩))).trans (Mid.of_below ((Below.refl (V.heap.size + 4) W1).alloc z1 _))).trans (Mid.of_grown hg2 (by simp;omega) (fun k e => .inr (ho1.lt k e).1))).setCell (p := ⟨V.heap.size, 0, none⟩) (.inl ⟨Nat.le_refl _, by show V.heap.size < V.heap.size + 2;omega⟩) _, ?_⟩
            show RunI V wd sl (pre ++ [(⟨k, hkn⟩ : HIx n)]).length (rfS wd sl os xs ys (vals (pre ++ [(⟨k, hkn⟩ : HIx n)]))) _
            rw [vals_snoc, HN.out, List.length_append]
            have hcode : (if cd = 0 then stC wd sl od u v g else cd) = 0 := by rw [if_pos HCD.out, ← HQ.out]; exact HQ0.out
            have hok : gtOk (nxN wd sl od u v g).f1 (nxN wd sl od u v g).f2 := stC_ok (HQ.out.symm.trans HQ0.out)
            have hkp := (((K1.alloc (.cells #[.bool nx.f0, .int .i64 nx.f1, .int .i64 nx.f2] 31)).far hg2 hne3).far (gb_setCell w2 ⟨V.heap.size, 0, none⟩ (.slice (some ⟨g2, 0, none⟩) (pre.length + 1) d2)) (fun e => by injection e with e; have : V.heap.size + 1 = V.heap.size := e;omega))
            rw [HNX.out] at hkp hown2
            exact ⟨E2.setCell (p := ⟨V.heap.size, 0, none⟩) (Nat.le_refl _) _, by show V.heap.size + 4 ≤ (World.setCell _ _ _).heap.size; simp [World.setCell];omega, ⟨_, World.cell?_setCell_same _ _ _ cc2, hown2.kept (gb_setCell w2 ⟨V.heap.size, 0, none⟩ _) (own_low hown2 (by show V.heap.size < V.heap.size + 4;omega))⟩, by simpa using cf2, hkp, hok, hcode, by simp [hlen]⟩
        · go_simp
          refine hK _ _ ?_
          clear hK K
          refine wpAnyIn_ready (rs := [1]) (by kernel_rfl) (by simp) ?_
          refine AllReadyIn.cons rfl (fun K hK => ?_) AllReadyIn.nil
          go_simp
          refine hK _ _ ?_
          clear hK K
          refine wpAnyIn_ready (rs := [2]) (by kernel_rfl) (by simp) ?_
          refine AllReadyIn.cons rfl (fun K hK => ?_) AllReadyIn.nil
          go_simp
          refine hK _ _ ?_
          clear hK K
          refine wpAnyIn_ready (rs := [3]) (by kernel_rfl) (by simp) ?_
          refine AllReadyIn.cons rfl (fun K hK => ?_) AllReadyIn.nil
          go_simp
          refine hK _ _ ?_
          clear hK K
          refine wpAnyIn_ready (rs := [5]) (by kernel_rfl) (by simp) ?_
          refine AllReadyIn.cons rfl (fun K hK => ?_) AllReadyIn.nil
          go_simp
          refine ⟨trivial, ?_⟩
          refine (CallsIn.inRound l (callsIn_wide.2 (step_t (V.heap.size + 1) wd sl u v od g _ hId.kp HS.out HGO.out ⟨by omega, by omega⟩ ⟨by omega, by omega⟩ ⟨by omega, by omega⟩ q HQ.out))).mono ?_
          rintro e1 W1 ⟨rfl, gB, hKp⟩
          refine hK _ _ ?_
          clear hK K
          refine wpAnyIn_ready (rs := [6]) (by kernel_rfl) (by simp) ?_
          refine AllReadyIn.cons rfl (fun K hK => ?_) AllReadyIn.nil
          go_simp
          refine hK _ _ ?_
          clear hK K
          refine wpAnyIn_done (by kernel_rfl) ?_ _
          obtain ⟨E1, z1, ⟨cv, cc, ho1⟩, cf⟩ := hId.step gB
          have K1 := hKp HQ0.out
          rw [← HNX.out] at K1
          clear hKp
          have k2 := K1.c2
          have k3 := K1.c3
          have k4 := K1.c4
          gi_wp2_with (gi_at_builtin; refine wplIn_appG rfl (.tmp 54) (.tmp 57) rfl _ (V.heap.size + 4) pre.length cv L nx.f0 nx.f1 nx.f2 W1.heap.size rfl (by exact ho1.alloc _) rfl (by first | (simp; done) | go_simp) (by first | (simp; done) | go_simp) (by first | (simp; done) | go_simp) (by omega) (by simp;omega) ?_; intro v2 w2 hown2 hg2; have hne2 : some V.heap.size ≠ Value.ownBlock cv := (fun e => by have := (ho1.lt _ e.symm).1;omega); have cc2 := (hg2.cell_far ⟨V.heap.size, 0, none⟩ (by show V.heap.size < (World.alloc _ _).heap.size; simp;omega) hne2).trans ((((Below.refl W1.heap.size W1).alloc (Nat.le_refl _) _).cell (p := ⟨V.heap.size, 0, none⟩) (show V.heap.size < W1.heap.size by omega)).trans cc); have cf2 := (hg2.frozen_far ⟨V.heap.size, 0, none⟩ (by show V.heap.size < (World.alloc _ _).heap.size; simp;omega) hne2).trans ((((Below.refl W1.heap.size W1).alloc (Nat.le_refl _) _).frozen (p := ⟨V.heap.size, 0, none⟩) (show V.heap.size < W1.heap.size by omega)).trans cf); obtain ⟨g2, d2, rfl⟩ := ownsRow_succ hown2)
          have hs2 := hg2.size
          simp only [World.size_alloc] at hs2
          have hne3 : some (V.heap.size + 1) ≠ Value.ownBlock cv := fun e => by have := (ho1.lt _ e.symm).1;omega
          have E2 : Below V.heap.size V w2 := (Below.grown (show Below V.heap.size V _ from E1.alloc (by omega) _) hg2 (by simp;omega) (fun k e => by have := (ho1.lt k e).1;omega))
          refine ⟨(((((keepsOthers_below bD).trans (keeps_cell hId.kp.c0 gB)).trans (KeepsOthers.alloc _ _)).trans (keeps_own (ho1.alloc _) hg2)).trans (KeepsOthers.setCell _ _ _)).from _, ((((Mid.of_below (bD.mono hle)).trans (show Mid V.heap.size (V.heap.size + 2) (V.heap.size + 4) Wd W1 from Mid.of_grown gB (by have := bD.size;omega) (fun k e => by cases e; exact .inl ⟨by omega, by omega⟩))).trans (Mid.of_below ((Below.refl (V.heap.size + 4) W1).alloc z1 _))).trans (Mid.of_grown hg2 (by simp;omega) (fun k e => .inr (ho1.lt k e).1))).setCell (p := ⟨V.heap.size, 0, none⟩) (.inl ⟨Nat.le_refl _, by show V.heap.size < V.heap.size + 2;omega⟩) _, ?_⟩
          show RunI V wd sl (pre ++ [(⟨k, hkn⟩ : HIx n)]).length (rfS wd sl os xs ys (vals (pre ++ [(⟨k, hkn⟩ : HIx n)]))) _
          rw [vals_snoc, HN.out, List.length_append]
          have hcode : (if cd = 0 then stC wd sl od u v g else cd) = 0 := by rw [if_pos HCD.out, ← HQ.out]; exact HQ0.out
          have hok : gtOk (nxN wd sl od u v g).f1 (nxN wd sl od u v g).f2 := stC_ok (HQ.out.symm.trans HQ0.out)
          have hkp := (((K1.alloc (.cells #[.bool nx.f0, .int .i64 nx.f1, .int .i64 nx.f2] 31)).far hg2 hne3).far (gb_setCell w2 ⟨V.heap.size, 0, none⟩ (.slice (some ⟨g2, 0, none⟩) (pre.length + 1) d2)) (fun e => by injection e with e; have : V.heap.size + 1 = V.heap.size := e;omega))
          rw [HNX.out] at hkp hown2
          exact ⟨E2.setCell (p := ⟨V.heap.size, 0, none⟩) (Nat.le_refl _) _, by show V.heap.size + 4 ≤ (World.setCell _ _ _).heap.size; simp [World.setCell];omega, ⟨_, World.cell?_setCell_same _ _ _ cc2, hown2.kept (gb_setCell w2 ⟨V.heap.size, 0, none⟩ _) (own_low hown2 (by show V.heap.size < V.heap.size + 4;omega))⟩, by simpa using cf2, hkp, hok, hcode, by simp [hlen]⟩
      · go_simp
        refine hK _ _ ?_
        clear hK K
        refine wpAnyIn_ready (rs := [0, 4]) (by kernel_rfl) (by simp) ?_
        refine AllReadyIn.cons rfl (fun K hK => ?_) (AllReadyIn.cons rfl (fun K hK => ?_) AllReadyIn.nil)
        · go_simp
          refine hK _ _ ?_
          clear hK K
          refine wpAnyIn_ready (rs := [2, 4]) (by kernel_rfl) (by simp) ?_
          refine AllReadyIn.cons rfl (fun K hK => ?_) (AllReadyIn.cons rfl (fun K hK => ?_) AllReadyIn.nil)
          · go_simp
            refine hK _ _ ?_
            clear hK K
            refine wpAnyIn_ready (rs := [3, 4]) (by kernel_rfl) (by simp) ?_
            refine AllReadyIn.cons rfl (fun K hK => ?_) (AllReadyIn.cons rfl (fun K hK => ?_) AllReadyIn.nil)
            · go_simp
              refine hK _ _ ?_
              clear hK K
              refine wpAnyIn_ready (rs := [4]) (by kernel_rfl) (by simp) ?_
              refine AllReadyIn.cons rfl (fun K hK => ?_) AllReadyIn.nil
              go_simp
              refine hK _ _ ?_
              clear hK K
              refine wpAnyIn_ready (rs := [5]) (by kernel_rfl) (by simp) ?_
              refine AllReadyIn.cons rfl (fun K hK => ?_) AllReadyIn.nil
              go_simp
              refine ⟨trivial, ?_⟩
              refine (CallsIn.inRound l (callsIn_wide.2 (step_t (V.heap.size + 1) wd sl u v od g _ hId.kp HS.out HGO.out ⟨by omega, by omega⟩ ⟨by omega, by omega⟩ ⟨by omega, by omega⟩ q HQ.out))).mono ?_
              rintro e1 W1 ⟨rfl, gB, hKp⟩
              refine hK _ _ ?_
              clear hK K
              refine wpAnyIn_ready (rs := [6]) (by kernel_rfl) (by simp) ?_
              refine AllReadyIn.cons rfl (fun K hK => ?_) AllReadyIn.nil
              go_simp
              refine hK _ _ ?_
              clear hK K
              refine wpAnyIn_done (by kernel_rfl) ?_ _
              obtain ⟨E1, z1, ⟨cv, cc, ho1⟩, cf⟩ := hId.step gB
              have K1 := hKp HQ0.out
              rw [← HNX.out] at K1
              clear hKp
              have k2 := K1.c2
              have k3 := K1.c3
              have k4 := K1.c4
              gi_wp2_with (gi_at_builtin; refine wplIn_appG rfl (.tmp 54) (.tmp 57) rfl _ (V.heap.size + 4) pre.length cv L nx.f0 nx.f1 nx.f2 W1.heap.size rfl (by exact ho1.alloc _) rfl (by first | (simp; done) | go_simp) (by first | (simp; done) | go_simp) (by first | (simp; done) | go_simp) (by omega) (by simp;omega) ?_; intro v2 w2 hown2 hg2; have hne2 : some V.heap.size ≠ Value.ownBlock cv := (fun e => by have := (ho1.lt _ e.symm).1;omega); have cc2 := (hg2.cell_far ⟨V.heap.size, 0, none⟩ (by show V.heap.size < (World.alloc _ _).heap.size; simp;omega) hne2).trans ((((Below.refl W1.heap.size W1).alloc (Nat.le_refl _) _).cell (p := ⟨V.heap.size, 0, none⟩) (show V.heap.size < W1.heap.size by omega)).trans cc); have cf2 := (hg2.frozen_far ⟨V.heap.size, 0, none⟩ (by show V.heap.size < (World.alloc _ _).heap.size; simp;omega) hne2).trans ((((Below.refl W1.heap.size W1).alloc (Nat.le_refl _) _).frozen (p := ⟨V.heap.size, 0, none⟩) (show V.heap.size < W1.heap.size by omega)).trans cf); obtain ⟨g2, d2, rfl⟩ := ownsRow_succ hown2)
              have hs2 := hg2.size
              simp only [World.size_alloc] at hs2
              have hne3 : some (V.heap.size + 1) ≠ Value.ownBlock cv := fun e => by have := (ho1.lt _ e.symm).1;omega
              have E2 : Below V.heap.size V w2 := (Below.grown (show Below V.heap.size V _ from E1.alloc (by omega) _) hg2 (by simp;omega) (fun k e => by have := (ho1.lt k e).1;omega))
              refine ⟨(((((keepsOthers_below bD).trans (keeps_cell hId.kp.c0 gB)).trans (KeepsOthers.alloc _ _)).trans (keeps_own (ho1.alloc _) hg2)).trans (KeepsOthers.setCell _ _ _)).from _, ((((Mid.of_below (bD.mono hle)).trans (show Mid V.heap.size (V.heap.size + 2) (V.heap.size + 4) Wd W1 from Mid.of_grown gB (by have := bD.size;omega) (fun k e => by cases e; exact .inl ⟨by omega, by omega⟩))).trans (Mid.of_below ((Below.refl (V.heap.size + 4) W1).alloc z1 _))).trans (Mid.of_grown hg2 (by simp;omega) (fun k e => .inr (ho1.lt k e).1))).setCell (p := ⟨V.heap.size, 0, none⟩) (.inl ⟨Nat.le_refl _, by show V.heap.size < V.heap.size + 2;omega⟩) _, ?_⟩
              show RunI V wd sl (pre ++ [(⟨k, hkn⟩ : HIx n)]).length (rfS wd sl os xs ys (vals (pre ++ [(⟨k, hkn⟩ : HIx n)]))) _
              rw [vals_snoc, HN.out, List.length_append]
              have hcode : (if cd = 0 then stC wd sl od u v g else cd) = 0 := by rw [if_pos HCD.out, ← HQ.out]; exact HQ0.out
              have hok : gtOk (nxN wd sl od u v g).f1 (nxN wd sl od u v g).f2 := stC_ok (HQ.out.symm.trans HQ0.out)
              have hkp := (((K1.alloc (.cells #[.bool nx.f0, .int .i64 nx.f1, .int .i64 nx.f2] 31)).far hg2 hne3).far (gb_setCell w2 ⟨V.heap.size, 0, none⟩ (.slice (some ⟨g2, 0, none⟩) (pre.length + 1) d2)) (fun e => by injection e with e; have : V.heap.size + 1 = V.heap.size := e;omega))
              rw [HNX.out] at hkp hown2
              exact ⟨E2.setCell (p := ⟨V.heap.size, 0, none⟩) (Nat.le_refl _) _, by show V.heap.size + 4 ≤ (World.setCell _ _ _).heap.size; simp [World.setCell];omega, ⟨_, World.cell?_setCell_same _ _ _ cc2, hown2.kept (gb_setCell w2 ⟨V.heap.size, 0, none⟩ _) (own_low hown2 (by show V.heap.size < V.heap.size + 4;omega))⟩, by simpa using cf2, hkp, hok, hcode, by simp [hlen]⟩
            · go_simp
              refine hK _ _ ?_
              clear hK K
              refine wpAnyIn_ready (rs := [3]) (by kernel_rfl) (by simp) ?_
              refine AllReadyIn.cons rfl (fun K hK => ?_) AllReadyIn.nil
              go_simp
              refine hK _ _ ?_
              clear hK K
              refine wpAnyIn_ready (rs := [5]) (by kernel_rfl) (by simp) ?_
              refine AllReadyIn.cons rfl (fun K hK => ?_) AllReadyIn.nil
              go_simp
              refine ⟨trivial, ?_⟩
              refine (CallsIn.inRound l (callsIn_wide.2 (step_t (V.heap.size + 1) wd sl u v od g _ hId.kp HS.out HGO.out ⟨by omega, by omega⟩ ⟨by omega, by omega⟩ ⟨by omega, by omega⟩ q HQ.out))).mono ?_
              rintro e1 W1 ⟨rfl, gB, hKp⟩
              refine hK _ _ ?_
              clear hK K
              refine wpAnyIn_ready (rs := [6]) (by kernel_rfl) (by simp) ?_
              refine AllReadyIn.cons rfl (fun K hK => ?_) AllReadyIn.nil
              go_simp
              refine hK _ _ ?_
              clear hK K
              refine wpAnyIn_done (by kernel_rfl) ?_ _
              obtain ⟨E1, z1, ⟨cv, cc, ho1⟩, cf⟩ := hId.step gB
              have K1 := hKp HQ0.out
              rw [← HNX.out] at K1
              clear hKp
              have k2 := K1.c2
              have k3 := K1.c3
              have k4 := K1.c4
              gi_wp2_with (gi_at_builtin; refine wplIn_appG rfl (.tmp 54) (.tmp 57) rfl _ (V.heap.size + 4) pre.length cv L nx.f0 nx.f1 nx.f2 W1.heap.size rfl (by exact ho1.alloc _) rfl (by first | (simp; done) | go_simp) (by first | (simp; done) | go_simp) (by first | (simp; done) | go_simp) (by omega) (by simp;omega) ?_; intro v2 w2 hown2 hg2; have hne2 : some V.heap.size ≠ Value.ownBlock cv := (fun e => by have := (ho1.lt _ e.symm).1;omega); have cc2 := (hg2.cell_far ⟨V.heap.size, 0, none⟩ (by show V.heap.size < (World.alloc _ _).heap.size; simp;omega) hne2).trans ((((Below.refl W1.heap.size W1).alloc (Nat.le_refl _) _).cell (p := ⟨V.heap.size, 0, none⟩) (show V.heap.size < W1.heap.size by omega)).trans cc); have cf2 := (hg2.frozen_far ⟨V.heap.size, 0, none⟩ (by show V.heap.size < (World.alloc _ _).heap.size; simp;omega) hne2).trans ((((Below.refl W1.heap.size W1).alloc (Nat.le_refl _) _).frozen (p := ⟨V.heap.size, 0, none⟩) (show V.heap.size < W1.heap.size by omega)).trans cf); obtain ⟨g2, d2, rfl⟩ := ownsRow_succ hown2)
              have hs2 := hg2.size
              simp only [World.size_alloc] at hs2
              have hne3 : some (V.heap.size + 1) ≠ Value.ownBlock cv := fun e => by have := (ho1.lt _ e.symm).1;omega
              have E2 : Below V.heap.size V w2 := (Below.grown (show Below V.heap.size V _ from E1.alloc (by omega) _) hg2 (by simp;omega) (fun k e => by have := (ho1.lt k e).1;omega))
              refine ⟨(((((keepsOthers_below bD).trans (keeps_cell hId.kp.c0 gB)).trans (KeepsOthers.alloc _ _)).trans (keeps_own (ho1.alloc _) hg2)).trans (KeepsOthers.setCell _ _ _)).from _, ((((Mid.of_below (bD.mono hle)).trans (show Mid V.heap.size (V.heap.size + 2) (V.heap.size + 4) Wd W1 from Mid.of_grown gB (by have := bD.size;omega) (fun k e => by cases e; exact .inl ⟨by omega, by omega⟩))).trans (Mid.of_below ((Below.refl (V.heap.size + 4) W1).alloc z1 _))).trans (Mid.of_grown hg2 (by simp;omega) (fun k e => .inr (ho1.lt k e).1))).setCell (p := ⟨V.heap.size, 0, none⟩) (.inl ⟨Nat.le_refl _, by show V.heap.size < V.heap.size + 2;omega⟩) _, ?_⟩
              show RunI V wd sl (pre ++ [(⟨k, hkn⟩ : HIx n)]).length (rfS wd sl os xs ys (vals (pre ++ [(⟨k, hkn⟩ : HIx n)]))) _
              rw [vals_snoc, HN.out, List.length_append]
              have hcode : (if cd = 0 then stC wd sl od u v g else cd) = 0 := by rw [if_pos HCD.out, ← HQ.out]; exact HQ0.out
              have hok : gtOk (nxN wd sl od u v g).f1 (nxN wd sl od u v g).f2 := stC_ok (HQ.out.symm.trans HQ0.out)
              have hkp := (((K1.alloc (.cells #[.bool nx.f0, .int .i64 nx.f1, .int .i64 nx.f2] 31)).far hg2 hne3).far (gb_setCell w2 ⟨V.heap.size, 0, none⟩ (.slice (some ⟨g2, 0, none⟩) (pre.length + 1) d2)) (fun e => by injection e with e; have : V.heap.size + 1 = V.heap.size := e;omega))
              rw [HNX.out] at hkp hown2
              exact ⟨E2.setCell (p := ⟨V.heap.size, 0, none⟩) (Nat.le_refl _) _, by show V.heap.size + 4 ≤ (World.setCell _ _ _).heap.size; simp [World.setCell];omega, ⟨_, World.cell?_setCell_same _ _ _ cc2, hown2.kept (gb_setCell w2 ⟨V.heap.size, 0, none⟩ _) (own_low hown2 (by show V.heap.size < V.heap.size + 4;omega))⟩, by simpa using cf2, hkp, hok, hcode, by simp [hlen]⟩
          · go_simp
            refine hK _ _ ?_
            clear hK K
            refine wpAnyIn_ready (rs := [2]) (by kernel_rfl) (by simp) ?_
            refine AllReadyIn.cons rfl (fun K hK => ?_) AllReadyIn.nil
            go_simp
            refine hK _ _ ?_
            clear hK K
            refine wpAnyIn_ready (rs := [3]) (by kernel_rfl) (by simp) ?_
            refine AllReadyIn.cons rfl (fun K hK => ?_) AllReadyIn.nil
            go_simp
            refine hK _ _ ?_
            clear hK K
            refine wpAnyIn_ready (rs := [5]) (by kernel_rfl) (by simp) ?_
            refine AllReadyIn.cons rfl (fun K hK => ?_) AllReadyIn.nil
            go_simp
            refine ⟨trivial, ?_⟩
            refine (CallsIn.inRound l (callsIn_wide.2 (step_t (V.heap.size + 1) wd sl u v od g _ hId.kp HS.out HGO.out ⟨by omega, by omega⟩ ⟨by omega, by omega⟩ ⟨by omega, by omega⟩ q HQ.out))).mono ?_
            rintro e1 W1 ⟨rfl, gB, hKp⟩
            refine hK _ _ ?_
            clear hK K
            refine wpAnyIn_ready (rs := [6]) (by kernel_rfl) (by simp) ?_
            refine AllReadyIn.cons rfl (fun K hK => ?_) AllReadyIn.nil
            go_simp
            refine hK _ _ ?_
            clear hK K
            refine wpAnyIn_done (by kernel_rfl) ?_ _
            obtain ⟨E1, z1, ⟨cv, cc, ho1⟩, cf⟩ := hId.step gB
            have K1 := hKp HQ0.out
            rw [← HNX.out] at K1
            clear hKp
            have k2 := K1.c2
            have k3 := K1.c3
            have k4 := K1.c4
            gi_wp2_with (gi_at_builtin; refine wplIn_appG rfl (.tmp 54) (.tmp 57) rfl _ (V.heap.size + 4) pre.length cv L nx.f0 nx.f1 nx.f2 W1.heap.size rfl (by exact ho1.alloc _) rfl (by first | (simp; done) | go_simp) (by first | (simp; done) | go_simp) (by first | (simp; done) | go_simp) (by omega) (by simp;omega) ?_; intro v2 w2 hown2 hg2; have hne2 : some V.heap.size ≠ Value.ownBlock cv := (fun e => by have := (ho1.lt _ e.symm).1;omega); have cc2 := (hg2.cell_far ⟨V.heap.size, 0, none⟩ (by show V.heap.size < (World.alloc _ _).heap.size; simp;omega) hne2).trans ((((Below.refl W1.heap.size W1).alloc (Nat.le_refl _) _).cell (p := ⟨V.heap.size, 0, none⟩) (show V.heap.size < W1.heap.size by omega)).trans cc); have cf2 := (hg2.frozen_far ⟨V.heap.size, 0, none⟩ (by show V.heap.size < (World.alloc _ _).heap.size; simp;omega) hne2).trans ((((Below.refl W1.heap.size W1).alloc (Nat.le_refl _) _).frozen (p := ⟨V.heap.size, 0, none⟩) (show V.heap.size < W1.heap.size by omega)).trans cf); obtain ⟨g2, d2, rfl⟩ := ownsRow_succ hown2)
            have hs2 := hg2.size
            simp only [World.size_alloc] at hs2
            have hne3 : some (V.heap.size + 1) ≠ Value.ownBlock cv := fun e => by have := (ho1.lt _ e.symm).1;omega
            have E2 : Below V.heap.size V w2 := (Below.grown (show Below V.heap.size V _ from E1.alloc (by omega) _) hg2 (by simp;omega) (fun k e => by have := (ho1.lt k e).1;omega))
            refine ⟨(((((keepsOthers_below bD).trans (keeps_cell hId.kp.c0 gB)).trans (KeepsOthers.alloc _ _)).trans (keeps_own (ho1.alloc _) hg2)).trans (KeepsOthers.setCell _ _ _)).from _, ((((Mid.of_below (bD.mono hle)).trans (show Mid V.heap.size (V.heap.size + 2) (V.heap.size + 4) Wd W1 from Mid.of_grown gB (by have := bD.size;omega) (fun k e => by cases e; exact .inl ⟨by omega, by omega⟩))).trans (Mid.of_below ((Below.refl (V.heap.size + 4) W1).alloc z1 _))).trans (Mid.of_grown hg2 (by simp;omega) (fun k e => .inr (ho1.lt k e).1))).setCell (p := ⟨V.heap.size, 0, none⟩) (.inl ⟨Nat.le_refl _, by show V.heap.size < V.heap.size + 2;omega⟩) _, ?_⟩
            show RunI V wd sl (pre ++ [(⟨k, hkn⟩ : HIx n)]).length (rfS wd sl os xs ys (vals (pre ++ [(⟨k, hkn⟩ : HIx n)]))) _
            rw [vals_snoc, HN.out, List.length_append]
            have hcode : (if cd = 0 then stC wd sl od u v g else cd) = 0 := by rw [if_pos HCD.out, ← HQ.out]; exact HQ0.out
            have hok : gtOk (nxN wd sl od u v g).f1 (nxN wd sl od u v g).f2 := stC_ok (HQ.out.symm.trans HQ0.out)
            have hkp := (((K1.alloc (.cells #[.bool nx.f0, .int .i64 nx.f1, .int .i64 nx.f2] 31)).far hg2 hne3).far (gb_setCell w2 ⟨V.heap.size, 0, none⟩ (.slice (some ⟨g2, 0, none⟩) (pre.length + 1) d2)) (fun e => by injection e with e; have : V.heap.size + 1 = V.heap.size := e;omega))
            rw [HNX.out] at hkp hown2
            exact ⟨E2.setCell (p := ⟨V.heap.size, 0, none⟩) (Nat.le_refl _) _, by show V.heap.size + 4 ≤ (World.setCell _ _ _).heap.size; simp [World.setCell];omega, ⟨_, World.cell?_setCell_same _ _ _ cc2, hown2.kept (gb_setCell w2 ⟨V.heap.size, 0, none⟩ _) (own_low hown2 (by show V.heap.size < V.heap.size + 4;omega))⟩, by simpa using cf2, hkp, hok, hcode, by simp [hlen]⟩
        · go_simp
          refine hK _ _ ?_
          clear hK K
          refine wpAnyIn_ready (rs := [0]) (by kernel_rfl) (by simp) ?_
          refine AllReadyIn.cons rfl (fun K hK => ?_) AllReadyIn.nil
          go_simp
          refine hK _ _ ?_
          clear hK K
          refine wpAnyIn_ready (rs := [2]) (by kernel_rfl) (by simp) ?_
          refine AllReadyIn.cons rfl (fun K hK => ?_) AllReadyIn.nil
          go_simp
          refine hK _ _ ?_
          clear hK K
          refine wpAnyIn_ready (rs := [3]) (by kernel_rfl) (by simp) ?_
          refine AllReadyIn.cons rfl (fun K hK => ?_) AllReadyIn.nil
          go_simp
          refine hK _ _ ?_
          clear hK K
          refine wpAnyIn_ready (rs := [5]) (by kernel_rfl) (by simp) ?_
          refine AllReadyIn.cons rfl (fun K hK => ?_) AllReadyIn.nil
          go_simp
          refine ⟨trivial, ?_⟩
          refine (CallsIn.inRound l (callsIn_wide.2 (step_t (V.heap.size + 1) wd sl u v od g _ hId.kp HS.out HGO.out ⟨by omega, by omega⟩ ⟨by omega, by omega⟩ ⟨by omega, by omega⟩ q HQ.out))).mono ?_
          rintro e1 W1 ⟨rfl, gB, hKp⟩
          refine hK _ _ ?_
          clear hK K
          refine wpAnyIn_ready (rs := [6]) (by kernel_rfl) (by simp) ?_
          refine AllReadyIn.cons rfl (fun K hK => ?_) AllReadyIn.nil
          go_simp
          refine hK _ _ ?_
          clear hK K
          refine wpAnyIn_done (by kernel_rfl) ?_ _
          obtain ⟨E1, z1, ⟨cv, cc, ho1⟩, cf⟩ := hId.step gB
          have K1 := hKp HQ0.out
          rw [← HNX.out] at K1
          clear hKp
          have k2 := K1.c2
          have k3 := K1.c3
          have k4 := K1.c4
          gi_wp2_with (gi_at_builtin; refine wplIn_appG rfl (.tmp 54) (.tmp 57) rfl _ (V.heap.size + 4) pre.length cv L nx.f0 nx.f1 nx.f2 W1.heap.size rfl (by exact ho1.alloc _) rfl (by first | (simp; done) | go_simp) (by first | (simp; done) | go_simp) (by first | (simp; done) | go_simp) (by omega) (by simp;omega) ?_; intro v2 w2 hown2 hg2; have hne2 : some V.heap.size ≠ Value.ownBlock cv := (fun e => by have := (ho1.lt _ e.symm).1;omega); have cc2 := (hg2.cell_far ⟨V.heap.size, 0, none⟩ (by show V.heap.size < (World.alloc _ _).heap.size; simp;omega) hne2).trans ((((Below.refl W1.heap.size W1).alloc (Nat.le_refl _) _).cell (p := ⟨V.heap.size, 0, none⟩) (show V.heap.size < W1.heap.size by omega)).trans cc); have cf2 := (hg2.frozen_far ⟨V.heap.size, 0, none⟩ (by show V.heap.size < (World.alloc _ _).heap.size; simp;omega) hne2).trans ((((Below.refl W1.heap.size W1).alloc (Nat.le_refl _) _).frozen (p := ⟨V.heap.size, 0, none⟩) (show V.heap.size < W1.heap.size by omega)).trans cf); obtain ⟨g2, d2, rfl⟩ := ownsRow_succ hown2)
          have hs2 := hg2.size
          simp only [World.size_alloc] at hs2
          have hne3 : some (V.heap.size + 1) ≠ Value.ownBlock cv := fun e => by have := (ho1.lt _ e.symm).1;omega
          have E2 : Below V.heap.size V w2 := (Below.grown (show Below V.heap.size V _ from E1.alloc (by omega) _) hg2 (by simp;omega) (fun k e => by have := (ho1.lt k e).1;omega))
          refine ⟨(((((keepsOthers_below bD).trans (keeps_cell hId.kp.c0 gB)).trans (KeepsOthers.alloc _ _)).trans (keeps_own (ho1.alloc _) hg2)).trans (KeepsOthers.setCell _ _ _)).from _, ((((Mid.of_below (bD.mono hle)).trans (show Mid V.heap.size (V.heap.size + 2) (V.heap.size + 4) Wd W1 from Mid.of_grown gB (by have := bD.size;omega) (fun k e => by cases e; exact .inl ⟨by omega, by omega⟩))).trans (Mid.of_below ((Below.refl (V.heap.size + 4) W1).alloc z1 _))).trans (Mid.of_grown hg2 (by simp;omega) (fun k e => .inr (ho1.lt k e).1))).setCell (p := ⟨V.heap.size, 0, none⟩) (.inl ⟨Nat.le_refl _, by show V.heap.size < V.heap.size + 2;omega⟩) _, ?_⟩
          show RunI V wd sl (pre ++ [(⟨k, hkn⟩ : HIx n)]).length (rfS wd sl os xs ys (vals (pre ++ [(⟨k, hkn⟩ : HIx n)]))) _
          rw [vals_snoc, HN.out, List.length_append]
          have hcode : (if cd = 0 then stC wd sl od u v g else cd) = 0 := by rw [if_pos HCD.out, ← HQ.out]; exact HQ0.out
          have hok : gtOk (nxN wd sl od u v g).f1 (nxN wd sl od u v g).f2 := stC_ok (HQ.out.symm.trans HQ0.out)
          have hkp := (((K1.alloc (.cells #[.bool nx.f0, .int .i64 nx.f1, .int .i64 nx.f2] 31)).far hg2 hne3).far (gb_setCell w2 ⟨V.heap.size, 0, none⟩ (.slice (some ⟨g2, 0, none⟩) (pre.length + 1) d2)) (fun e => by injection e with e; have : V.heap.size + 1 = V.heap.size := e;omega))
          rw [HNX.out] at hkp hown2
          exact ⟨E2.setCell (p := ⟨V.heap.size, 0, none⟩) (Nat.le_refl _) _, by show V.heap.size + 4 ≤ (World.setCell _ _ _).heap.size; simp [World.setCell];omega, ⟨_, World.cell?_setCell_same _ _ _ cc2, hown2.kept (gb_setCell w2 ⟨V.heap.size, 0, none⟩ _) (own_low hown2 (by show V.heap.size < V.heap.size + 4;omega))⟩, by simpa using cf2, hkp, hok, hcode, by simp [hlen]⟩
      · go_simp
        refine hK _ _ ?_
        clear hK K
        refine wpAnyIn_ready (rs := [0, 1]) (by kernel_rfl) (by simp) ?_
        refine AllReadyIn.cons rfl (fun K hK => ?_) (AllReadyIn.cons rfl (fun K hK => ?_) AllReadyIn.nil)
        · go_simp
          refine hK _ _ ?_
          clear hK K
          refine wpAnyIn_ready (rs := [1]) (by kernel_rfl) (by simp) ?_
          refine AllReadyIn.cons rfl (fun K hK => ?_) AllReadyIn.nil
          go_simp
          refine hK _ _ ?_
          clear hK K
          refine wpAnyIn_ready (rs := [2]) (by kernel_rfl) (by simp) ?_
          refine AllReadyIn.cons rfl (fun K hK => ?_) AllReadyIn.nil
          go_simp
          refine hK _ _ ?_
          clear hK K
          refine wpAnyIn_ready (rs := [3]) (by kernel_rfl) (by simp) ?_
          refine AllReadyIn.cons rfl (fun K hK => ?_) AllReadyIn.nil
          go_simp
          refine hK _ _ ?_
          clear hK K
          refine wpAnyIn_ready (rs := [5]) (by kernel_rfl) (by simp) ?_
          refine AllReadyIn.cons rfl (fun K hK => ?_) AllReadyIn.nil
          go_simp
          refine ⟨trivial, ?_⟩
          refine (CallsIn.inRound l (callsIn_wide.2 (step_t (V.heap.size + 1) wd sl u v od g _ hId.kp HS.out HGO.out ⟨by omega, by omega⟩ ⟨by omega, by omega⟩ ⟨by omega, by omega⟩ q HQ.out))).mono ?_
          rintro e1 W1 ⟨rfl, gB, hKp⟩
          refine hK _ _ ?_
          clear hK K
          refine wpAnyIn_ready (rs := [6]) (by kernel_rfl) (by simp) ?_
          refine AllReadyIn.cons rfl (fun K hK => ?_) AllReadyIn.nil
          go_simp
          refine hK _ _ ?_
          clear hK K
          refine wpAnyIn_done (by kernel_rfl) ?_ _
          obtain ⟨E1, z1, ⟨cv, cc, ho1⟩, cf⟩ := hId.step gB
          have K1 := hKp HQ0.out
          rw [← HNX.out] at K1
          clear hKp
          have k2 := K1.c2
          have k3 := K1.c3
          have k4 := K1.c4
          gi_wp2_with (gi_at_builtin; refine wplIn_appG rfl (.tmp 54) (.tmp 57) rfl _ (V.heap.size + 4) pre.length cv L nx.f0 nx.f1 nx.f2 W1.heap.size rfl (by exact ho1.alloc _) rfl (by first | (simp; done) | go_simp) (by first | (simp; done) | go_simp) (by first | (simp; done) | go_simp) (by omega) (by simp;omega) ?_; intro v2 w2 hown2 hg2; have hne2 : some V.heap.size ≠ Value.ownBlock cv := (fun e => by have := (ho1.lt _ e.symm).1;omega); have cc2 := (hg2.cell_far ⟨V.heap.size, 0, none⟩ (by show V.heap.size < (World.alloc _ _).heap.size; simp;omega) hne2).trans ((((Below.refl W1.heap.size W1).alloc (Nat.le_refl _) _).cell (p := ⟨V.heap.size, 0, none⟩) (show V.heap.size < W1.heap.size by omega)).trans cc); have cf2 := (hg2.frozen_far ⟨V.heap.size, 0, none⟩ (by show V.heap.size < (World.alloc _ _).heap.size; simp;omega) hne2).trans ((((Below.refl W1.heap.size W1).alloc (Nat.le_refl _) _).frozen (p := ⟨V.heap.size, 0, none⟩) (show V.heap.size < W1.heap.size by omega)).trans cf); obtain ⟨g2, d2, rfl⟩ := ownsRow_succ hown2)
          have hs2 := hg2.size
          simp only [World.size_alloc] at hs2
          have hne3 : some (V.heap.size + 1) ≠ Value.ownBlock cv := fun e => by have := (ho1.lt _ e.symm).1;omega
          have E2 : Below V.heap.size V w2 := (Below.grown (show Below V.heap.size V _ from E1.alloc (by omega) _) hg2 (by simp;omega) (fun k e => by have := (ho1.lt k e).1;omega))
          refine ⟨(((((keepsOthers_below bD).trans (keeps_cell hId.kp.c0 gB)).trans (KeepsOthers.alloc _ _)).trans (keeps_own (ho1.alloc _) hg2)).trans (KeepsOthers.setCell _ _ _)).from _, ((((Mid.of_below (bD.mono hle)).trans (show Mid V.heap.size (V.heap.size + 2) (V.heap.size + 4) Wd W1 from Mid.of_grown gB (by have := bD.size;omega) (fun k e => by cases e; exact .inl ⟨by omega, by omega⟩))).trans (Mid.of_below ((Below.refl (V.heap.size + 4) W1).alloc z1 _))).trans (Mid.of_grown hg2 (by simp;omega) (fun k e => .inr (ho1.lt k e).1))).setCell (p := ⟨V.heap.size, 0, none⟩) (.inl ⟨Nat.le_refl _, by show V.heap.size < V.heap.size + 2;omega⟩) _, ?_⟩
          show RunI V wd sl (pre ++ [(⟨k, hkn⟩ : HIx n)]).length (rfS wd sl os xs ys (vals (pre ++ [(⟨k, hkn⟩ : HIx n)]))) _
          rw [vals_snoc, HN.out, List.length_append]
          have hcode : (if cd = 0 then stC wd sl od u v g else cd) = 0 := by rw [if_pos HCD.out, ← HQ.out]; exact HQ0.out
          have hok : gtOk (nxN wd sl od u v g).f1 (nxN wd sl od u v g).f2 := stC_ok (HQ.out.symm.trans HQ0.out)
          have hkp := (((K1.alloc (.cells #[.bool nx.f0, .int .i64 nx.f1, .int .i64 nx.f2] 31)).far hg2 hne3).far (gb_setCell w2 ⟨V.heap.size, 0, none⟩ (.slice (some ⟨g2, 0, none⟩) (pre.length + 1) d2)) (fun e => by injection e with e; have : V.heap.size + 1 = V.heap.size := e;omega))
          rw [HNX.out] at hkp hown2
          exact ⟨E2.setCell (p := ⟨V.heap.size, 0, none⟩) (Nat.le_refl _) _, by show V.heap.size + 4 ≤ (World.setCell _ _ _).heap.size; simp [World.setCell];omega, ⟨_, World.cell?_setCell_same _ _ _ cc2, hown2.kept (gb_setCell w2 ⟨V.heap.size, 0, none⟩ _) (own_low hown2 (by show V.heap.size < V.heap.size + 4;omega))⟩, by simpa using cf2, hkp, hok, hcode, by simp [hlen]⟩
        · go_simp
          refine hK _ _ ?_
          clear hK K
          refine wpAnyIn_ready (rs := [0]) (by kernel_rfl) (by simp) ?_
          refine AllReadyIn.cons rfl (fun K hK => ?_) AllReadyIn.nil
          go_simp
          refine hK _ _ ?_
          clear hK K
          refine wpAnyIn_ready (rs := [2]) (by kernel_rfl) (by simp) ?_
          refine AllReadyIn.cons rfl (fun K hK => ?_) AllReadyIn.nil
          go_simp
          refine hK _ _ ?_
          clear hK K
          refine wpAnyIn_ready (rs := [3]) (by kernel_rfl) (by simp) ?_
          refine AllReadyIn.cons rfl (fun K hK => ?_) AllReadyIn.nil
          go_simp
          refine hK _ _ ?_
          clear hK K
          refine wpAnyIn_ready (rs := [5]) (by kernel_rfl) (by simp) ?_
          refine AllReadyIn.cons rfl (fun K hK => ?_) AllReadyIn.nil
          go_simp
          refine ⟨trivial, ?_⟩
          refine (CallsIn.inRound l (callsIn_wide.2 (step_t (V.heap.size + 1) wd sl u v od g _ hId.kp HS.out HGO.out ⟨by omega, by omega⟩ ⟨by omega, by omega⟩ ⟨by omega, by omega⟩ q HQ.out))).mono ?_
          rintro e1 W1 ⟨rfl, gB, hKp⟩
          refine hK _ _ ?_
          clear hK K
          refine wpAnyIn_ready (rs := [6]) (by kernel_rfl) (by simp) ?_
          refine AllReadyIn.cons rfl (fun K hK => ?_) AllReadyIn.nil
          go_simp
          refine hK _ _ ?_
          clear hK K
          refine wpAnyIn_done (by kernel_rfl) ?_ _
          obtain ⟨E1, z1, ⟨cv, cc, ho1⟩, cf⟩ := hId.step gB
          have K1 := hKp HQ0.out
          rw [← HNX.out] at K1
          clear hKp
          have k2 := K1.c2
          have k3 := K1.c3
          have k4 := K1.c4
          gi_wp2_with (gi_at_builtin; refine wplIn_appG rfl (.tmp 54) (.tmp 57) rfl _ (V.heap.size + 4) pre.length cv L nx.f0 nx.f1 nx.f2 W1.heap.size rfl (by exact ho1.alloc _) rfl (by first | (simp; done) | go_simp) (by first | (simp; done) | go_simp) (by first | (simp; done) | go_simp) (by omega) (by simp;omega) ?_; intro v2 w2 hown2 hg2; have hne2 : some V.heap.size ≠ Value.ownBlock cv := (fun e => by have := (ho1.lt _ e.symm).1;omega); have cc2 := (hg2.cell_far ⟨V.heap.size, 0, none⟩ (by show V.heap.size < (World.alloc _ _).heap.size; simp;omega) hne2).trans ((((Below.refl W1.heap.size W1).alloc (Nat.le_refl _) _).cell (p := ⟨V.heap.size, 0, none⟩) (show V.heap.size < W1.heap.size by omega)).trans cc); have cf2 := (hg2.frozen_far ⟨V.heap.size, 0, none⟩ (by show V.heap.size < (World.alloc _ _).heap.size; simp;omega) hne2).trans ((((Below.refl W1.heap.size W1).alloc (Nat.le_refl _) _).frozen (p := ⟨V.heap.size, 0, none⟩) (show V.heap.size < W1.heap.size by omega)).trans cf); obtain ⟨g2, d2, rfl⟩ := ownsRow_succ hown2)
          have hs2 := hg2.size
          simp only [World.size_alloc] at hs2
          have hne3 : some (V.heap.size + 1) ≠ Value.ownBlock cv := fun e => by have := (ho1.lt _ e.symm).1;omega
          have E2 : Below V.heap.size V w2 := (Below.grown (show Below V.heap.size V _ from E1.alloc (by omega) _) hg2 (by simp;omega) (fun k e => by have := (ho1.lt k e).1;omega))
          refine ⟨(((((keepsOthers_below bD).trans (keeps_cell hId.kp.c0 gB)).trans (KeepsOthers.alloc _ _)).trans (keeps_own (ho1.alloc _) hg2)).trans (KeepsOthers.setCell _ _ _)).from _, ((((Mid.of_below (bD.mono hle)).trans (show Mid V.heap.size (V.heap.size + 2) (V.heap.size + 4) Wd W1 from Mid.of_grown gB (by have := bD.size;omega) (fun k e => by cases e; exact .inl ⟨by omega, by omega⟩))).trans (Mid.of_below ((Below.refl (V.heap.size + 4) W1).alloc z1 _))).trans (Mid.of_grown hg2 (by simp;omega) (fun k e => .inr (ho1.lt k e).1))).setCell (p := ⟨V.heap.size, 0, none⟩) (.inl ⟨Nat.le_refl _, by show V.heap.size < V.heap.size + 2;omega⟩) _, ?_⟩
          show RunI V wd sl (pre ++ [(⟨k, hkn⟩ : HIx n)]).length (rfS wd sl os xs ys (vals (pre ++ [(⟨k, hkn⟩ : HIx n)]))) _
          rw [vals_snoc, HN.out, List.length_append]
          have hcode : (if cd = 0 then stC wd sl od u v g else cd) = 0 := by rw [if_pos HCD.out, ← HQ.out]; exact HQ0.out
          have hok : gtOk (nxN wd sl od u v g).f1 (nxN wd sl od u v g).f2 := stC_ok (HQ.out.symm.trans HQ0.out)
          have hkp := (((K1.alloc (.cells #[.bool nx.f0, .int .i64 nx.f1, .int .i64 nx.f2] 31)).far hg2 hne3).far (gb_setCell w2 ⟨V.heap.size, 0, none⟩ (.slice (some ⟨g2, 0, none⟩) (pre.length + 1) d2)) (fun e => by injection e with e; have : V.heap.size + 1 = V.heap.size := e;omega))
          rw [HNX.out] at hkp hown2
          exact ⟨E2.setCell (p := ⟨V.heap.size, 0, none⟩) (Nat.le_refl _) _, by show V.heap.size + 4 ≤ (World.setCell _ _ _).heap.size; simp [World.setCell];omega, ⟨_, World.cell?_setCell_same _ _ _ cc2, hown2.kept (gb_setCell w2 ⟨V.heap.size, 0, none⟩ _) (own_low hown2 (by show V.heap.size < V.heap.size + 4;omega))⟩, by simpa using cf2, hkp, hok, hcode, by simp [hlen]⟩
    · have e5 : (q != 0) = true := by simp [g0]
      have HQ0 := Lib.hid g0
      clear g0
      gi_wp2
      refine wpIn_region_any hmx ?_
      change wpAnyIn _ _ _ _ _ _ _ _ _ (World.drew W)
      generalize World.drew W = Wd at bD hId b0d b1d c1d oed ⊢
      refine wpAnyIn_ready (rs := [0, 1, 4]) (by kernel_rfl) (by simp) ?_
      refine AllReadyIn.cons rfl (fun K hK => ?_) (AllReadyIn.cons rfl (fun K hK => ?_) (AllReadyIn.cons rfl (fun K hK => ?_) AllReadyIn.nil))
      · go_simp
        refine hK _ _ ?_
        clear hK K
        refine wpAnyIn_ready (rs := [1, 4]) (by kernel_rfl) (by simp) ?_
        refine AllReadyIn.cons rfl (fun K hK => ?_) (AllReadyIn.cons rfl (fun K hK => ?_) AllReadyIn.nil)
        · go_simp
          refine hK _ _ ?_
          clear hK K
          refine wpAnyIn_ready (rs := [2, 4]) (by kernel_rfl) (by simp) ?_
          refine AllReadyIn.cons rfl (fun K hK => ?_) (AllReadyIn.cons rfl (fun K hK => ?_) AllReadyIn.nil)
          · go_simp
            refine hK _ _ ?_
            clear hK K
            refine wpAnyIn_ready (rs := [3, 4]) (by kernel_rfl) (by simp) ?_
            refine AllReadyIn.cons rfl (fun K hK => ?_) (AllReadyIn.cons rfl (fun K hK => ?_) AllReadyIn.nil)
            · go_simp
              refine hK _ _ ?_
              clear hK K
              refine wpAnyIn_ready (rs := [4]) (by kernel_rfl) (by simp) ?_
              refine AllReadyIn.cons rfl (fun K hK => ?_) AllReadyIn.nil
              go_simp
              refine hK _ _ ?_
              clear hK K
              refine wpAnyIn_ready (rs := [5]) (by kernel_rfl) (by simp) ?_
              refine AllReadyIn.cons rfl (fun K hK => ?_) AllReadyIn.nil
              go_simp
              refine ⟨trivial, ?_⟩
              refine (CallsIn.inRound l (callsIn_wide.2 (step_t (V.heap.size + 1) wd sl u v od g _ hId.kp HS.out HGO.out ⟨by omega, by omega⟩ ⟨by omega, by omega⟩ ⟨by omega, by omega⟩ q HQ.out))).mono ?_
              rintro e1 W1 ⟨rfl, gB, hKp⟩
              refine hK _ _ ?_
              clear hK K
              refine wpAnyIn_ready (rs := [6]) (by kernel_rfl) (by simp) ?_
              refine AllReadyIn.cons rfl (fun K hK => ?_) AllReadyIn.nil
              go_simp
              refine hK _ _ ?_
              clear hK K
              refine wpAnyIn_done (by kernel_rfl) ?_ _
              obtain ⟨E1, z1, _, _⟩ := hId.step gB
              have r0 : W1.cell? ⟨w.heap.size + 1 + 1, 0, none⟩ = _ := (E1.cell (p := ⟨w.heap.size + 1 + 1, 0, none⟩) (show w.heap.size + 1 + 1 < _ from (by first | omega | (simp; done) | (simp; omega)))).trans pc0; have rf0 : W1.frozen? ⟨w.heap.size + 1 + 1, 0, none⟩ = _ := (E1.frozen (p := ⟨w.heap.size + 1 + 1, 0, none⟩) (show w.heap.size + 1 + 1 < _ from (by first | omega | (simp; done) | (simp; omega)))).trans pcf0
              have t0 : W1.cell? ⟨w.heap.size + 1 + 1 + 1, 0, none⟩ = _ := (E1.cell (p := ⟨w.heap.size + 1 + 1 + 1, 0, none⟩) (show w.heap.size + 1 + 1 + 1 < _ from (by first | omega | (simp; done) | (simp; omega)))).trans pd0; have tf0 : W1.frozen? ⟨w.heap.size + 1 + 1 + 1, 0, none⟩ = _ := (E1.frozen (p := ⟨w.heap.size + 1 + 1 + 1, 0, none⟩) (show w.heap.size + 1 + 1 + 1 < _ from (by first | omega | (simp; done) | (simp; omega)))).trans pdf0
              gi_wp2
              have hcode : (if cd = 0 then stC wd sl od u v g else cd) = q := by rw [if_pos HCD.out, ← HQ.out]
              have n1 : (⟨w.heap.size + 1 + 1, 0, none⟩ : Addr) ≠ ⟨w.heap.size + 1 + 1 + 1, 0, none⟩ := fun g => by injection g with g;omega
              refine ⟨((((keepsOthers_below bD).trans (keeps_cell hId.kp.c0 gB)).trans (KeepsOthers.setCell _ _ _)).trans (KeepsOthers.setCell _ _ _)).from _, rfl, ?_⟩
              show RunX w V (rfS wd sl os xs ys (vals (pre ++ [(⟨k, hkn⟩ : HIx n)]))).2.2 _
              rw [vals_snoc, HN.out]
              show RunX w V (if cd = 0 then stC wd sl od u v g else cd) _
              rw [hcode]
              exact ⟨((d3.trans (E1.mono (by omega))).setCell (p := ⟨w.heap.size + 1 + 1, 0, none⟩) (show w.heap.size ≤ w.heap.size + 1 + 1 by omega) _).setCell (p := ⟨w.heap.size + 1 + 1 + 1, 0, none⟩) (show w.heap.size ≤ w.heap.size + 1 + 1 + 1 by omega) _, by show V.heap.size + 4 ≤ (World.setCell _ _ _).heap.size; simp [World.setCell];omega, (World.cell?_setCell_other _ _ _ _ (Ne.symm n1)).trans (World.cell?_setCell_same _ _ _ r0), World.cell?_setCell_same _ _ _ ((World.cell?_setCell_other _ _ _ _ n1).trans t0), HQ0.out⟩
            · go_simp
              refine hK _ _ ?_
              clear hK K
              refine wpAnyIn_ready (rs := [3]) (by kernel_rfl) (by simp) ?_
              refine AllReadyIn.cons rfl (fun K hK => ?_) AllReadyIn.nil
              go_simp
              refine hK _ _ ?_
              clear hK K
              refine wpAnyIn_ready (rs := [5]) (by kernel_rfl) (by simp) ?_
              refine AllReadyIn.cons rfl (fun K hK => ?_) AllReadyIn.nil
              go_simp
              refine ⟨trivial, ?_⟩
              refine (CallsIn.inRound l (callsIn_wide.2 (step_t (V.heap.size + 1) wd sl u v od g _ hId.kp HS.out HGO.out ⟨by omega, by omega⟩ ⟨by omega, by omega⟩ ⟨by omega, by omega⟩ q HQ.out))).mono ?_
              rintro e1 W1 ⟨rfl, gB, hKp⟩
              refine hK _ _ ?_
              clear hK K
              refine wpAnyIn_ready (rs := [6]) (by kernel_rfl) (by simp) ?_
              refine AllReadyIn.cons rfl (fun K hK => ?_) AllReadyIn.nil
              go_simp
              refine hK _ _ ?_
              clear hK K
              refine wpAnyIn_done (by kernel_rfl) ?_ _
              obtain ⟨E1, z1, _, _⟩ := hId.step gB
              have r0 : W1.cell? ⟨w.heap.size + 1 + 1, 0, none⟩ = _ := (E1.cell (p := ⟨w.heap.size + 1 + 1, 0, none⟩) (show w.heap.size + 1 + 1 < _ from (by first | omega | (simp; done) | (simp; omega)))).trans pc0; have rf0 : W1.frozen? ⟨w.heap.size + 1 + 1, 0, none⟩ = _ := (E1.frozen (p := ⟨w.heap.size + 1 + 1, 0, none⟩) (show w.heap.size + 1 + 1 < _ from (by first | omega | (simp; done) | (simp; omega)))).trans pcf0
              have t0 : W1.cell? ⟨w.heap.size + 1 + 1 + 1, 0, none⟩ = _ := (E1.cell (p := ⟨w.heap.size + 1 + 1 + 1, 0, none⟩) (show w.heap.size + 1 + 1 + 1 < _ from (by first | omega | (simp; done) | (simp; omega)))).trans pd0; have tf0 : W1.frozen? ⟨w.heap.size + 1 + 1 + 1, 0, none⟩ = _ := (E1.frozen (p := ⟨w.heap.size + 1 + 1 + 1, 0, none⟩) (show w.heap.size + 1 + 1 + 1 < _ from (by first | omega | (simp; done) | (simp; omega)))).trans pdf0
              gi_wp2
              have hcode : (if cd = 0 then stC wd sl od u v g else cd) = q := by rw [if_pos HCD.out, ← HQ.out]
              have n1 : (⟨w.heap.size + 1 + 1, 0, none⟩ : Addr) ≠ ⟨w.heap.size + 1 + 1 + 1, 0, none⟩ := fun g => by injection g with g;omega
              refine ⟨((((keepsOthers_below bD).trans (keeps_cell hId.kp.c0 gB)).trans (KeepsOthers.setCell _ _ _)).trans (KeepsOthers.setCell _ _ _)).from _, rfl, ?_⟩
              show RunX w V (rfS wd sl os xs ys (vals (pre ++ [(⟨k, hkn⟩ : HIx n)]))).2.2 _
              rw [vals_snoc, HN.out]
              show RunX w V (if cd = 0 then stC wd sl od u v g else cd) _
              rw [hcode]
              exact ⟨((d3.trans (E1.mono (by omega))).setCell (p := ⟨w.heap.size + 1 + 1, 0, none⟩) (show w.heap.size ≤ w.heap.size + 1 + 1 by omega) _).setCell (p := ⟨w.heap.size + 1 + 1 + 1, 0, none⟩) (show w.heap.size ≤ w.heap.size + 1 + 1 + 1 by omega) _, by show V.heap.size + 4 ≤ (World.setCell _ _ _).heap.size; simp [World.setCell];omega, (World.cell?_setCell_other _ _ _ _ (Ne.symm n1)).trans (World.cell?_setCell_same _ _ _ r0), World.cell?_setCell_same _ _ _ ((World.cell?_setCell_other _ _ _ _ n1).trans t0), HQ0.out⟩
          · go_simp
            refine hK _ _ ?_
            clear hK K
            refine wpAnyIn_ready (rs := [2]) (by kernel_rfl) (by simp) ?_
            refine AllReadyIn.cons rfl (fun K hK => ?_) AllReadyIn.nil
            go_simp
            refine hK _ _ ?_
            clear hK K
            refine wpAnyIn_ready (rs := [3]) (by kernel_rfl) (by simp) ?_
            refine AllReadyIn.cons rfl (fun K hK => ?_) AllReadyIn.nil
            go_simp
            refine hK _ _ ?_
            clear hK K
            refine wpAnyIn_ready (rs := [5]) (by kernel_rfl) (by simp) ?_
            refine AllReadyIn.cons rfl (fun K hK => ?_) AllReadyIn.nil
            go_simp
            refine ⟨trivial, ?_⟩
            refine (CallsIn.inRound l (callsIn_wide.2 (step_t (V.heap.size + 1) wd sl u v od g _ hId.kp HS.out HGO.out ⟨by omega, by omega⟩ ⟨by omega, by omega⟩ ⟨by omega, by omega⟩ q HQ.out))).mono ?_
            rintro e1 W1 ⟨rfl, gB, hKp⟩
            refine hK _ _ ?_
            clear hK K
            refine wpAnyIn_ready (rs := [6]) (by kernel_rfl) (by simp) ?_
            refine AllReadyIn.cons rfl (fun K hK => ?_) AllReadyIn.nil
            go_simp
            refine hK _ _ ?_
            clear hK K
            refine wpAnyIn_done (by kernel_rfl) ?_ _
            obtain ⟨E1, z1, _, _⟩ := hId.step gB
            have r0 : W1.cell? ⟨w.heap.size + 1 + 1, 0, none⟩ = _ := (E1.cell (p := ⟨w.heap.size + 1 + 1, 0, none⟩) (show w.heap.size + 1 + 1 < _ from (by first | omega | (simp; done) | (simp; omega)))).trans pc0; have rf0 : W1.frozen? ⟨w.heap.size + 1 + 1, 0, none⟩ = _ := (E1.frozen (p := ⟨w.heap.size + 1 + 1, 0, none⟩) (show w.heap.size + 1 + 1 < _ from (by first | omega | (simp; done) | (simp; omega)))).trans pcf0
            have t0 : W1.cell? ⟨w.heap.size + 1 + 1 + 1, 0, none⟩ = _ := (E1.cell (p := ⟨w.heap.size + 1 + 1 + 1, 0, none⟩) (show w.heap.size + 1 + 1 + 1 < _ from (by first | omega | (simp; done) | (simp; omega)))).trans pd0; have tf0 : W1.frozen? ⟨w.heap.size + 1 + 1 + 1, 0, none⟩ = _ := (E1.frozen (p := ⟨w.heap.size + 1 + 1 + 1, 0, none⟩) (show w.heap.size + 1 + 1 + 1 < _ from (by first | omega | (simp; done) | (simp; omega)))).trans pdf0
            gi_wp2
            have hcode : (if cd = 0 then stC wd sl od u v g else cd) = q := by rw [if_pos HCD.out, ← HQ.out]
            have n1 : (⟨w.heap.size + 1 + 1, 0, none⟩ : Addr) ≠ ⟨w.heap.size + 1 + 1 + 1, 0, none⟩ := fun g => by injection g with g;omega
            refine ⟨((((keepsOthers_below bD).trans (keeps_cell hId.kp.c0 gB)).trans (KeepsOthers.setCell _ _ _)).trans (KeepsOthers.setCell _ _ _)).from _, rfl, ?_⟩
            show RunX w V (rfS wd sl os xs ys (vals (pre ++ [(⟨k, hkn⟩ : HIx n)]))).2.2 _
            rw [vals_snoc, HN.out]
            show RunX w V (if cd = 0 then stC wd sl od u v g else cd) _
            rw [hcode]
            exact ⟨((d3.trans (E1.mono (by omega))).setCell (p := ⟨w.heap.size + 1 + 1, 0, none⟩) (show w.heap.size ≤ w.heap.size + 1 + 1 by omega) _).setCell (p := ⟨w.heap.size + 1 + 1 + 1, 0, none⟩) (show w.heap.size ≤ w.heap.size + 1 + 1 + 1 by omega) _, by show V.heap.size + 4 ≤ (World.setCell _ _ _).heap.size; simp [World.setCell];omega, (World.cell?_setCell_other _ _ _ _ (Ne.symm n1)).trans (World.cell?_setCell_same _ _ _ r0), World.cell?_setCell_same _ _ _ ((World.cell?_setCell_other _ _ _ _ n1).trans t0), HQ0.out⟩
        · go_simp
          refine hK _ _ ?_
          clear hK K
          refine wpAnyIn_ready (rs := [1]) (by kernel_rfl) (by simp) ?_
          refine AllReadyIn.cons rfl (fun K hK => ?_) AllReadyIn.nil
          go_simp
          refine hK _ _ ?_
          clear hK K
          refine wpAnyIn_ready (rs := [2]) (by kernel_rfl) (by simp) ?_
          refine AllReadyIn.cons rfl (fun K hK => ?_) AllReadyIn.nil
          go_simp
          refine hK _ _ ?_
          clear hK K
          refine wpAnyIn_ready (rs := [3]) (by kernel_rfl) (by simp) ?_
          refine AllReadyIn.cons rfl (fun K hK => ?_) AllReadyIn.nil
          go_simp
          refine hK _ _ ?_
          clear hK K
          refine wpAnyIn_ready (rs := [5]) (by kernel_rfl) (by simp) ?_
          refine AllReadyIn.cons rfl (fun K hK => ?_) AllReadyIn.nil
          go_simp
          refine ⟨trivial, ?_⟩
          refine (CallsIn.inRound l (callsIn_wide.2 (step_t (V.heap.size + 1) wd sl u v od g _ hId.kp HS.out HGO.out ⟨by omega, by omega⟩ ⟨by omega, by omega⟩ ⟨by omega, by omega⟩ q HQ.out))).mono ?_
          rintro e1 W1 ⟨rfl, gB, hKp⟩
          refine hK _ _ ?_
          clear hK K
          refine wpAnyIn_ready (rs := [6]) (by kernel_rfl) (by simp) ?_
          refine AllReadyIn.cons rfl (fun K hK => ?_) AllReadyIn.nil
          go_simp
          refine hK _ _ ?_
          clear hK K
          refine wpAnyIn_done (by kernel_rfl) ?_ _
          obtain ⟨E1, z1, _, _⟩ := hId.step gB
          have r0 : W1.cell? ⟨w.heap.size + 1 + 1, 0, none⟩ = _ := (E1.cell (p := ⟨w.heap.size + 1 + 1, 0, none⟩) (show w.heap.size + 1 + 1 < _ from (by first | omega | (simp; done) | (simp; omega)))).trans pc0; have rf0 : W1.frozen? ⟨w.heap.size + 1 + 1, 0, none⟩ = _ := (E1.frozen (p := ⟨w.heap.size + 1 + 1, 0, none⟩) (show w.heap.size + 1 + 1 < _ from (by first | omega | (simp; done) | (simp; omega)))).trans pcf0
          have t0 : W1.cell? ⟨w.heap.size + 1 + 1 + 1, 0, none⟩ = _ := (E1.cell (p := ⟨w.heap.size + 1 + 1 + 1, 0, none⟩) (show w.heap.size + 1 + 1 + 1 < _ from (by first | omega | (simp; done) | (simp; omega)))).trans pd0; have tf0 : W1.frozen? ⟨w.heap.size + 1 + 1 + 1, 0, none⟩ = _ := (E1.frozen (p := ⟨w.heap.size + 1 + 1 + 1, 0, none⟩) (show w.heap.size + 1 + 1 + 1 < _ from (by first | omega | (simp; done) | (simp; omega)))).trans pdf0
          gi_wp2
          have hcode : (if cd = 0 then stC wd sl od u v g else cd) = q := by rw [if_pos HCD.out, ← HQ.out]
          have n1 : (⟨w.heap.size + 1 + 1, 0, none⟩ : Addr) ≠ ⟨w.heap.size + 1 + 1 + 1, 0, none⟩ := fun g => by injection g with g;omega
          refine ⟨((((keepsOthers_below bD).trans (keeps_cell hId.kp.c0 gB)).trans (KeepsOthers.setCell _ _ _)).trans (KeepsOthers.setCell _ _ _)).from _, rfl, ?_⟩
          show RunX w V (rfS wd sl os xs ys (vals (pre ++ [(⟨k, hkn⟩ : HIx n)]))).2.2 _
          rw [vals_snoc, HN.out]
          show RunX w V (if cd = 0 then stC wd sl od u v g else cd) _
          rw [hcode]
          exact ⟨((d3.trans (E1.mono (by omega))).setCell (p := ⟨w.heap.size + 1 + 1, 0, none⟩) (show w.heap.size ≤ w.heap.size + 1 + 1 by omega) _).setCell (p := ⟨w.heap.size + 1 + 1 + 1, 0, none⟩) (show w.heap.size ≤ w.heap.size + 1 + 1 + 1 by omega) _, by show V.heap.size + 4 ≤ (World.setCell _ _ _).heap.size; simp [World.setCell];omega, (World.cell?_setCell_other _ _ _ _ (Ne.symm n1)).trans (World.cell?_setCell_same _ _ _ r0), World.cell?_setCell_same _ _ _ ((World.cell?_setCell_other _ _ _ _ n1).trans t0), HQ0.out⟩
      · go_simp
        refine hK _ _ ?_
        clear hK K
        refine wpAnyIn_ready (rs := [0, 4]) (by kernel_rfl) (by simp) ?_
        refine AllReadyIn.cons rfl (fun K hK => ?_) (AllReadyIn.cons rfl (fun K hK => ?_) AllReadyIn.nil)
        · go_simp
          refine hK _ _ ?_
          clear hK K
          refine wpAnyIn_ready (rs := [2, 4]) (by kernel_rfl) (by simp) ?_
          refine AllReadyIn.cons rfl (fun K hK => ?_) (AllReadyIn.cons rfl (fun K hK => ?_) AllReadyIn.nil)
          · go_simp
            refine hK _ _ ?_
            clear hK K
            refine wpAnyIn_ready (rs := [3, 4]) (by kernel_rfl) (by simp) ?_
            refine AllReadyIn.cons rfl (fun K hK => ?_) (AllReadyIn.cons rfl (fun K hK => ?_) AllReadyIn.nil)
            · go_simp
              refine hK _ _ ?_
              clear hK K
              refine wpAnyIn_ready (rs := [4]) (by kernel_rfl) (by simp) ?_
              refine AllReadyIn.cons rfl (fun K hK => ?_) AllReadyIn.nil
              go_simp
              refine hK _ _ ?_
              clear hK K
              refine wpAnyIn_ready (rs := [5]) (by kernel_rfl) (by simp) ?_
              refine AllReadyIn.cons rfl (fun K hK => ?_) AllReadyIn.nil
              go_simp
              refine ⟨trivial, ?_⟩
              refine (CallsIn.inRound l (callsIn_wide.2 (step_t (V.heap.size + 1) wd sl u v od g _ hId.kp HS.out HGO.out ⟨by omega, by omega⟩ ⟨by omega, by omega⟩ ⟨by omega, by omega⟩ q HQ.out))).mono ?_
              rintro e1 W1 ⟨rfl, gB, hKp⟩
              refine hK _ _ ?_
              clear hK K
              refine wpAnyIn_ready (rs := [6]) (by kernel_rfl) (by simp) ?_
              refine AllReadyIn.cons rfl (fun K hK => ?_) AllReadyIn.nil
              go_simp
              refine hK _ _ ?_
              clear hK K
              refine wpAnyIn_done (by kernel_rfl) ?_ _
              obtain ⟨E1, z1, _, _⟩ := hId.step gB
              have r0 : W1.cell? ⟨w.heap.size + 1 + 1, 0, none⟩ = _ := (E1.cell (p := ⟨w.heap.size + 1 + 1, 0, none⟩) (show w.heap.size + 1 + 1 < _ from (by first | omega | (simp; done) | (simp; omega)))).trans pc0; have rf0 : W1.frozen? ⟨w.heap.size + 1 + 1, 0, none⟩ = _ := (E1.frozen (p := ⟨w.heap.size + 1 + 1, 0, none⟩) (show w.heap.size + 1 + 1 < _ from (by first | omega | (simp; done) | (simp; omega)))).trans pcf0
              have t0 : W1.cell? ⟨w.heap.size + 1 + 1 + 1, 0, none⟩ = _ := (E1.cell (p := ⟨w.heap.size + 1 + 1 + 1, 0, none⟩) (show w.heap.size + 1 + 1 + 1 < _ from (by first | omega | (simp; done) | (simp; omega)))).trans pd0; have tf0 : W1.frozen? ⟨w.heap.size + 1 + 1 + 1, 0, none⟩ = _ := (E1.frozen (p := ⟨w.heap.size + 1 + 1 + 1, 0, none⟩) (show w.heap.size + 1 + 1 + 1 < _ from (by first | omega | (simp; done) | (simp; omega)))).trans pdf0
              gi_wp2
              have hcode : (if cd = 0 then stC wd sl od u v g else cd) = q := by rw [if_pos HCD.out, ← HQ.out]
              have n1 : (⟨w.heap.size + 1 + 1, 0, none⟩ : Addr) ≠ ⟨w.heap.size + 1 + 1 + 1, 0, none⟩ := fun g => by injection g with g;omega
              refine ⟨((((keepsOthers_below bD).trans (keeps_cell hId.kp.c0 gB)).trans (KeepsOthers.setCell _ _ _)).trans (KeepsOthers.setCell _ _ _)).from _, rfl, ?_⟩
              show RunX w V (rfS wd sl os xs ys (vals (pre ++ [(⟨k, hkn⟩ : HIx n)]))).2.2 _
              rw [vals_snoc, HN.out]
              show RunX w V (if cd = 0 then stC wd sl od u v g else cd) _
              rw [hcode]
              exact ⟨((d3.trans (E1.mono (by omega))).setCell (p := ⟨w.heap.size + 1 + 1, 0, none⟩) (show w.heap.size ≤ w.heap.size + 1 + 1 by omega) _).setCell (p := ⟨w.heap.size + 1 + 1 + 1, 0, none⟩) (show w.heap.size ≤ w.heap.size + 1 + 1 + 1 by omega) _, by show V.heap.size + 4 ≤ (World.setCell _ _ _).heap.size; simp [World.setCell];omega, (World.cell?_setCell_other _ _ _ _ (Ne.symm n1)).trans (World.cell?_setCell_same _ _ _ r0), World.cell?_setCell_same _ _ _ ((World.cell?_setCell_other _ _ _ _ n1).trans t0), HQ0.out⟩
            · go_simp
              refine hK _ _ ?_
              clear hK K
              refine wpAnyIn_ready (rs := [3]) (by kernel_rfl) (by simp) ?_
              refine AllReadyIn.cons rfl (fun K hK => ?_) AllReadyIn.nil
              go_simp
              refine hK _ _ ?_
              clear hK K
              refine wpAnyIn_ready (rs := [5]) (by kernel_rfl) (by simp) ?_
              refine AllReadyIn.cons rfl (fun K hK => ?_) AllReadyIn.nil
              go_simp
              refine ⟨trivial, ?_⟩
              refine (CallsIn.inRound l (callsIn_wide.2 (step_t (V.heap.size + 1) wd sl u v od g _ hId.kp HS.out HGO.out ⟨by omega, by omega⟩ ⟨by omega, by omega⟩ ⟨by omega, by omega⟩ q HQ.out))).mono ?_
              rintro e1 W1 ⟨rfl, gB, hKp⟩
              refine hK _ _ ?_
              clear hK K
              refine wpAnyIn_ready (rs := [6]) (by kernel_rfl) (by simp) ?_
              refine AllReadyIn.cons rfl (fun K hK => ?_) AllReadyIn.nil
              go_simp
              refine hK _ _ ?_
              clear hK K
              refine wpAnyIn_done (by kernel_rfl) ?_ _
              obtain ⟨E1, z1, _, _⟩ := hId.step gB
              have r0 : W1.cell? ⟨w.heap.size + 1 + 1, 0, none⟩ = _ := (E1.cell (p := ⟨w.heap.size + 1 + 1, 0, none⟩) (show w.heap.size + 1 + 1 < _ from (by first | omega | (simp; done) | (simp; omega)))).trans pc0; have rf0 : W1.frozen? ⟨w.heap.size + 1 + 1, 0, none⟩ = _ := (E1.frozen (p := ⟨w.heap.size + 1 + 1, 0, none⟩) (show w.heap.size + 1 + 1 < _ from (by first | omega | (simp; done) | (simp; omega)))).trans pcf0
              have t0 : W1.cell? ⟨w.heap.size + 1 + 1 + 1, 0, none⟩ = _ := (E1.cell (p := ⟨w.heap.size + 1 + 1 + 1, 0, none⟩) (show w.heap.size + 1 + 1 + 1 < _ from (by first | omega | (simp; done) | (simp; omega)))).trans pd0; have tf0 : W1.frozen? ⟨w.heap.size + 1 + 1 + 1, 0, none⟩ = _ := (E1.frozen (p := ⟨w.heap.size + 1 + 1 + 1, 0, none⟩) (show w.heap.size + 1 + 1 + 1 < _ from (by first | omega | (simp; done) | (simp; omega)))).trans pdf0
              gi_wp2
              have hcode : (if cd = 0 then stC wd sl od u v g else cd) = q := by rw [if_pos HCD.out, ← HQ.out]
              have n1 : (⟨w.heap.size + 1 + 1, 0, none⟩ : Addr) ≠ ⟨w.heap.size + 1 + 1 + 1, 0, none⟩ := fun g => by injection g with g;omega
              refine ⟨((((keepsOthers_below bD).trans (keeps_cell hId.kp.c0 gB)).trans (KeepsOthers.setCell _ _ _)).trans (KeepsOthers.setCell _ _ _)).from _, rfl, ?_⟩
              show RunX w V (rfS wd sl os xs ys (vals (pre ++ [(⟨k, hkn⟩ : HIx n)]))).2.2 _
              rw [vals_snoc, HN.out]
              show RunX w V (if cd = 0 then stC wd sl od u v g else cd) _
              rw [hcode]
              exact ⟨((d3.trans (E1.mono (by omega))).setCell (p := ⟨w.heap.size + 1 + 1, 0, none⟩) (show w.heap.size ≤ w.heap.size + 1 + 1 by omega) _).setCell (p := ⟨w.heap.size + 1 + 1 + 1, 0, none⟩) (show w.heap.size ≤ w.heap.size + 1 + 1 + 1 by omega) _, by show V.heap.size + 4 ≤ (World.setCell _ _ _).heap.size; simp [World.setCell];omega, (World.cell?_setCell_other _ _ _ _ (Ne.symm n1)).trans (World.cell?_setCell_same _ _ _ r0), World.cell?_setCell_same _ _ _ ((World.cell?_setCell_other _ _ _ _ n1).trans t0), HQ0.out⟩
          · go_simp
            refine hK _ _ ?_
            clear hK K
            refine wpAnyIn_ready (rs := [2]) (by kernel_rfl) (by simp) ?_
            refine AllReadyIn.cons rfl (fun K hK => ?_) AllReadyIn.nil
            go_simp
            refine hK _ _ ?_
            clear hK K
            refine wpAnyIn_ready (rs := [3]) (by kernel_rfl) (by simp) ?_
            refine AllReadyIn.cons rfl (fun K hK => ?_) AllReadyIn.nil
            go_simp
            refine hK _ _ ?_
            clear hK K
            refine wpAnyIn_ready (rs := [5]) (by kernel_rfl) (by simp) ?_
            refine AllReadyIn.cons rfl (fun K hK => ?_) AllReadyIn.nil
            go_simp
            refine ⟨trivial, ?_⟩
            refine (CallsIn.inRound l (callsIn_wide.2 (step_t (V.heap.size + 1) wd sl u v od g _ hId.kp HS.out HGO.out ⟨by omega, by omega⟩ ⟨by omega, by omega⟩ ⟨by omega, by omega⟩ q HQ.out))).mono ?_
            rintro e1 W1 ⟨rfl, gB, hKp⟩
            refine hK _ _ ?_
            clear hK K
            refine wpAnyIn_ready (rs := [6]) (by kernel_rfl) (by simp) ?_
            refine AllReadyIn.cons rfl (fun K hK => ?_) AllReadyIn.nil
            go_simp
            refine hK _ _ ?_
            clear hK K
            refine wpAnyIn_done (by kernel_rfl) ?_ _
            obtain ⟨E1, z1, _, _⟩ := hId.step gB
            have r0 : W1.cell? ⟨w.heap.size + 1 + 1, 0, none⟩ = _ := (E1.cell (p := ⟨w.heap.size + 1 + 1, 0, none⟩) (show w.heap.size + 1 + 1 < _ from (by first | omega | (simp; done) | (simp; omega)))).trans pc0; have rf0 : W1.frozen? ⟨w.heap.size + 1 + 1, 0, none⟩ = _ := (E1.frozen (p := ⟨w.heap.size + 1 + 1, 0, none⟩) (show w.heap.size + 1 + 1 < _ from (by first | omega | (simp; done) | (simp; omega)))).trans pcf0
            have t0 : W1.cell? ⟨w.heap.size + 1 + 1 + 1, 0, none⟩ = _ := (E1.cell (p := ⟨w.heap.size + 1 + 1 + 1, 0, none⟩) (show w.heap.size + 1 + 1 + 1 < _ from (by first | omega | (simp; done) | (simp; omega)))).trans pd0; have tf0 : W1.frozen? ⟨w.heap.size + 1 + 1 + 1, 0, none⟩ = _ := (E1.frozen (p := ⟨w.heap.size + 1 + 1 + 1, 0, none⟩) (show w.heap.size + 1 + 1 + 1 < _ from (by first | omega | (simp; done) | (simp; omega)))).trans pdf0
            gi_wp2
            have hcode : (if cd = 0 then stC wd sl od u v g else cd) = q := by rw [if_pos HCD.out, ← HQ.out]
            have n1 : (⟨w.heap.size + 1 + 1, 0, none⟩ : Addr) ≠ ⟨w.heap.size + 1 + 1 + 1, 0, none⟩ := fun g => by injection g with g;omega
            refine ⟨((((keepsOthers_below bD).trans (keeps_cell hId.kp.c0 gB)).trans (KeepsOthers.setCell _ _ _)).trans (KeepsOthers.setCell _ _ _)).from _, rfl, ?_⟩
            show RunX w V (rfS wd sl os xs ys (vals (pre ++ [(⟨k, hkn⟩ : HIx n)]))).2.2 _
            rw [vals_snoc, HN.out]
            show RunX w V (if cd = 0 then stC wd sl od u v g else cd) _
            rw [hcode]
            exact ⟨((d3.trans (E1.mono (by omega))).setCell (p := ⟨w.heap.size + 1 + 1, 0, none⟩) (show w.heap.size ≤ w.heap.size + 1 + 1 by omega) _).setCell (p := ⟨w.heap.size + 1 + 1 + 1, 0, none⟩) (show w.heap.size ≤ w.heap.size + 1 + 1 + 1 by omega) _, by show V.heap.size + 4 ≤ (World.setCell _ _ _).heap.size; simp [World.setCell];omega, (World.cell?_setCell_other _ _ _ _ (Ne.symm n1)).trans (World.cell?_setCell_same _ _ _ r0), World.cell?_setCell_same _ _ _ ((World.cell?_setCell_other _ _ _ _ n1).trans t0), HQ0.out⟩
        · go_simp
          refine hK _ _ ?_
          clear hK K
          refine wpAnyIn_ready (rs := [0]) (by kernel_rfl) (by simp) ?_
          refine AllReadyIn.cons rfl (fun K hK => ?_) AllReadyIn.nil
          go_simp
          refine hK _ _ ?_
          clear hK K
          refine wpAnyIn_ready (rs := [2]) (by kernel_rfl) (by simp) ?_
          refine AllReadyIn.cons rfl (fun K hK => ?_) AllReadyIn.nil
          go_simp
          refine hK _ _ ?_
          clear hK K
          refine wpAnyIn_ready (rs := [3]) (by kernel_rfl) (by simp) ?_
          refine AllReadyIn.cons rfl (fun K hK => ?_) AllReadyIn.nil
          go_simp
          refine hK _ _ ?_
          clear hK K
          refine wpAnyIn_ready (rs := [5]) (by kernel_rfl) (by simp) ?_
          refine AllReadyIn.cons rfl (fun K hK => ?_) AllReadyIn.nil
          go_simp
          refine ⟨trivial, ?_⟩
          refine (CallsIn.inRound l (callsIn_wide.2 (step_t (V.heap.size + 1) wd sl u v od g _ hId.kp HS.out HGO.out ⟨by omega, by omega⟩ ⟨by omega, by omega⟩ ⟨by omega, by omega⟩ q HQ.out))).mono ?_
          rintro e1 W1 ⟨rfl, gB, hKp⟩
          refine hK _ _ ?_
          clear hK K
          refine wpAnyIn_ready (rs := [6]) (by kernel_rfl) (by simp) ?_
          refine AllReadyIn.cons rfl (fun K hK => ?_) AllReadyIn.nil
          go_simp
          refine hK _ _ ?_
          clear hK K
          refine wpAnyIn_done (by kernel_rfl) ?_ _
          obtain ⟨E1, z1, _, _⟩ := hId.step gB
          have r0 : W1.cell? ⟨w.heap.size + 1 + 1, 0, none⟩ = _ := (E1.cell (p := ⟨w.heap.size + 1 + 1, 0, none⟩) (show w.heap.size + 1 + 1 < _ from (by first | omega | (simp; done) | (simp; omega)))).trans pc0; have rf0 : W1.frozen? ⟨w.heap.size + 1 + 1, 0, none⟩ = _ := (E1.frozen (p := ⟨w.heap.size + 1 + 1, 0, none⟩) (show w.heap.size + 1 + 1 < _ from (by first | omega | (simp; done) | (simp; omega)))).trans pcf0
          have t0 : W1.cell? ⟨w.heap.size + 1 + 1 + 1, 0, none⟩ = _ := (E1.cell (p := ⟨w.heap.size + 1 + 1 + 1, 0, none⟩) (show w.heap.size + 1 + 1 + 1 < _ from (by first | omega | (simp; done) | (simp; omega)))).trans pd0; have tf0 : W1.frozen? ⟨w.heap.size + 1 + 1 + 1, 0, none⟩ = _ := (E1.frozen (p := ⟨w.heap.size + 1 + 1 + 1, 0, none⟩) (show w.heap.size + 1 + 1 + 1 < _ from (by first | omega | (simp; done) | (simp; omega)))).trans pdf0
          gi_wp2
          have hcode : (if cd = 0 then stC wd sl od u v g else cd) = q := by rw [if_pos HCD.out, ← HQ.out]
          have n1 : (⟨w.heap.size + 1 + 1, 0, none⟩ : Addr) ≠ ⟨w.heap.size + 1 + 1 + 1, 0, none⟩ := fun g => by injection g with g;omega
          refine ⟨((((keepsOthers_below bD).trans (keeps_cell hId.kp.c0 gB)).trans (KeepsOthers.setCell _ _ _)).trans (KeepsOthers.setCell _ _ _)).from _, rfl, ?_⟩
          show RunX w V (rfS wd sl os xs ys (vals (pre ++ [(⟨k, hkn⟩ : HIx n)]))).2.2 _
          rw [vals_snoc, HN.out]
          show RunX w V (if cd = 0 then stC wd sl od u v g else cd) _
          rw [hcode]
          exact ⟨((d3.trans (E1.mono (by omega))).setCell (p := ⟨w.heap.size + 1 + 1, 0, none⟩) (show w.heap.size ≤ w.heap.size + 1 + 1 by omega) _).setCell (p := ⟨w.heap.size + 1 + 1 + 1, 0, none⟩) (show w.heap.size ≤ w.heap.size + 1 + 1 + 1 by omega) _, by show V.heap.size + 4 ≤ (World.setCell _ _ _).heap.size; simp [World.setCell];omega, (World.cell?_setCell_other _ _ _ _ (Ne.symm n1)).trans (World.cell?_setCell_same _ _ _ r0), World.cell?_setCell_same _ _ _ ((World.cell?_setCell_other _ _ _ _ n1).trans t0), HQ0.out⟩
      · go_simp
        refine hK _ _ ?_
        clear hK K
        refine wpAnyIn_ready (rs := [0, 1]) (by kernel_rfl) (by simp) ?_
        refine AllReadyIn.cons rfl (fun K hK => ?_) (AllReadyIn.cons rfl (fun K hK => ?_) AllReadyIn.nil)
        · go_simp
          refine hK _ _ ?_
          clear hK K
          refine wpAnyIn_ready (rs := [1]) (by kernel_rfl) (by simp) ?_
          refine AllReadyIn.cons rfl (fun K hK => ?_) AllReadyIn.nil
          go_simp
          refine hK _ _ ?_
          clear hK K
          refine wpAnyIn_ready (rs := [2]) (by kernel_rfl) (by simp) ?_
          refine AllReadyIn.cons rfl (fun K hK => ?_) AllReadyIn.nil
          go_simp
          refine hK _ _ ?_
          clear hK K
          refine wpAnyIn_ready (rs := [3]) (by kernel_rfl) (by simp) ?_
          refine AllReadyIn.cons rfl (fun K hK => ?_) AllReadyIn.nil
          go_simp
          refine hK _ _ ?_
          clear hK K
          refine wpAnyIn_ready (rs := [5]) (by kernel_rfl) (by simp) ?_
          refine AllReadyIn.cons rfl (fun K hK => ?_) AllReadyIn.nil
          go_simp
          refine ⟨trivial, ?_⟩
          refine (CallsIn.inRound l (callsIn_wide.2 (step_t (V.heap.size + 1) wd sl u v od g _ hId.kp HS.out HGO.out ⟨by omega, by omega⟩ ⟨by omega, by omega⟩ ⟨by omega, by omega⟩ q HQ.out))).mono ?_
          rintro e1 W1 ⟨rfl, gB, hKp⟩
          refine hK _ _ ?_
          clear hK K
          refine wpAnyIn_ready (rs := [6]) (by kernel_rfl) (by simp) ?_
          refine AllReadyIn.cons rfl (fun K hK => ?_) AllReadyIn.nil
          go_simp
          refine hK _ _ ?_
          clear hK K
          refine wpAnyIn_done (by kernel_rfl) ?_ _
          obtain ⟨E1, z1, _, _⟩ := hId.step gB
          have r0 : W1.cell? ⟨w.heap.size + 1 + 1, 0, none⟩ = _ := (E1.cell (p := ⟨w.heap.size + 1 + 1, 0, none⟩) (show w.heap.size + 1 + 1 < _ from (by first | omega | (simp; done) | (simp; omega)))).trans pc0; have rf0 : W1.frozen? ⟨w.heap.size + 1 + 1, 0, none⟩ = _ := (E1.frozen (p := ⟨w.heap.size + 1 + 1, 0, none⟩) (show w.heap.size + 1 + 1 < _ from (by first | omega | (simp; done) | (simp; omega)))).trans pcf0
          have t0 : W1.cell? ⟨w.heap.size + 1 + 1 + 1, 0, none⟩ = _ := (E1.cell (p := ⟨w.heap.size + 1 + 1 + 1, 0, none⟩) (show w.heap.size + 1 + 1 + 1 < _ from (by first | omega | (simp; done) | (simp; omega)))).trans pd0; have tf0 : W1.frozen? ⟨w.heap.size + 1 + 1 + 1, 0, none⟩ = _ := (E1.frozen (p := ⟨w.heap.size + 1 + 1 + 1, 0, none⟩) (show w.heap.size + 1 + 1 + 1 < _ from (by first | omega | (simp; done) | (simp; omega)))).trans pdf0
          gi_wp2
          have hcode : (if cd = 0 then stC wd sl od u v g else cd) = q := by rw [if_pos HCD.out, ← HQ.out]
          have n1 : (⟨w.heap.size + 1 + 1, 0, none⟩ : Addr) ≠ ⟨w.heap.size + 1 + 1 + 1, 0, none⟩ := fun g => by injection g with g;omega
          refine ⟨((((keepsOthers_below bD).trans (keeps_cell hId.kp.c0 gB)).trans (KeepsOthers.setCell _ _ _)).trans (KeepsOthers.setCell _ _ _)).from _, rfl, ?_⟩
          show RunX w V (rfS wd sl os xs ys (vals (pre ++ [(⟨k, hkn⟩ : HIx n)]))).2.2 _
          rw [vals_snoc, HN.out]
          show RunX w V (if cd = 0 then stC wd sl od u v g else cd) _
          rw [hcode]
          exact ⟨((d3.trans (E1.mono (by omega))).setCell (p := ⟨w.heap.size + 1 + 1, 0, none⟩) (show w.heap.size ≤ w.heap.size + 1 + 1 by omega) _).setCell (p := ⟨w.heap.size + 1 + 1 + 1, 0, none⟩) (show w.heap.size ≤ w.heap.size + 1 + 1 + 1 by omega) _, by show V.heap.size + 4 ≤ (World.setCell _ _ _).heap.size; simp [World.setCell];omega, (World.cell?_setCell_other _ _ _ _ (Ne.symm n1)).trans (World.cell?_setCell_same _ _ _ r0), World.cell?_setCell_same _ _ _ ((World.cell?_setCell_other _ _ _ _ n1).trans t0), HQ0.out⟩
        · go_simp
          refine hK _ _ ?_
          clear hK K
          refine wpAnyIn_ready (rs := [0]) (by kernel_rfl) (by simp) ?_
          refine AllReadyIn.cons rfl (fun K hK => ?_) AllReadyIn.nil
          go_simp
          refine hK _ _ ?_
          clear hK K
          refine wpAnyIn_ready (rs := [2]) (by kernel_rfl) (by simp) ?_
          refine AllReadyIn.cons rfl (fun K hK => ?_) AllReadyIn.nil
          go_simp
          refine hK _ _ ?_
          clear hK K
          refine wpAnyIn_ready (rs := [3]) (by kernel_rfl) (by simp) ?_
          refine AllReadyIn.cons rfl (fun K hK => ?_) AllReadyIn.nil
          go_simp
          refine hK _ _ ?_
          clear hK K
          refine wpAnyIn_ready (rs := [5]) (by kernel_rfl) (by simp) ?_
          refine AllReadyIn.cons rfl (fun K hK => ?_) AllReadyIn.nil
          go_simp
          refine ⟨trivial, ?_⟩
          refine (CallsIn.inRound l (callsIn_wide.2 (step_t (V.heap.size + 1) wd sl u v od g _ hId.kp HS.out HGO.out ⟨by omega, by omega⟩ ⟨by omega, by omega⟩ ⟨by omega, by omega⟩ q HQ.out))).mono ?_
          rintro e1 W1 ⟨rfl, gB, hKp⟩
          refine hK _ _ ?_
          clear hK K
          refine wpAnyIn_ready (rs := [6]) (by kernel_rfl) (by simp) ?_
          refine AllReadyIn.cons rfl (fun K hK => ?_) AllReadyIn.nil
          go_simp
          refine hK _ _ ?_
          clear hK K
          refine wpAnyIn_done (by kernel_rfl) ?_ _
          obtain ⟨E1, z1, _, _⟩ := hId.step gB
          have r0 : W1.cell? ⟨w.heap.size + 1 + 1, 0, none⟩ = _ := (E1.cell (p := ⟨w.heap.size + 1 + 1, 0, none⟩) (show w.heap.size + 1 + 1 < _ from (by first | omega | (simp; done) | (simp; omega)))).trans pc0; have rf0 : W1.frozen? ⟨w.heap.size + 1 + 1, 0, none⟩ = _ := (E1.frozen (p := ⟨w.heap.size + 1 + 1, 0, none⟩) (show w.heap.size + 1 + 1 < _ from (by first | omega | (simp; done) | (simp; omega)))).trans pcf0
          have t0 : W1.cell? ⟨w.heap.size + 1 + 1 + 1, 0, none⟩ = _ := (E1.cell (p := ⟨w.heap.size + 1 + 1 + 1, 0, none⟩) (show w.heap.size + 1 + 1 + 1 < _ from (by first | omega | (simp; done) | (simp; omega)))).trans pd0; have tf0 : W1.frozen? ⟨w.heap.size + 1 + 1 + 1, 0, none⟩ = _ := (E1.frozen (p := ⟨w.heap.size + 1 + 1 + 1, 0, none⟩) (show w.heap.size + 1 + 1 + 1 < _ from (by first | omega | (simp; done) | (simp; omega)))).trans pdf0
          gi_wp2
          have hcode : (if cd = 0 then stC wd sl od u v g else cd) = q := by rw [if_pos HCD.out, ← HQ.out]
          have n1 : (⟨w.heap.size + 1 + 1, 0, none⟩ : Addr) ≠ ⟨w.heap.size + 1 + 1 + 1, 0, none⟩ := fun g => by injection g with g;omega
          refine ⟨((((keepsOthers_below bD).trans (keeps_cell hId.kp.c0 gB)).trans (KeepsOthers.setCell _ _ _)).trans (KeepsOthers.setCell _ _ _)).from _, rfl, ?_⟩
          show RunX w V (rfS wd sl os xs ys (vals (pre ++ [(⟨k, hkn⟩ : HIx n)]))).2.2 _
          rw [vals_snoc, HN.out]
          show RunX w V (if cd = 0 then stC wd sl od u v g else cd) _
          rw [hcode]
          exact ⟨((d3.trans (E1.mono (by omega))).setCell (p := ⟨w.heap.size + 1 + 1, 0, none⟩) (show w.heap.size ≤ w.heap.size + 1 + 1 by omega) _).setCell (p := ⟨w.heap.size + 1 + 1 + 1, 0, none⟩) (show w.heap.size ≤ w.heap.size + 1 + 1 + 1 by omega) _, by show V.heap.size + 4 ≤ (World.setCell _ _ _).heap.size; simp [World.setCell];omega, (World.cell?_setCell_other _ _ _ _ (Ne.symm n1)).trans (World.cell?_setCell_same _ _ _ r0), World.cell?_setCell_same _ _ _ ((World.cell?_setCell_other _ _ _ _ n1).trans t0), HQ0.out⟩
  case done =>
    rintro D zs W hD hS hI hK
    rw [hS, rfS_range] at hI
    have hcode : reN wd sl os xs ys n = 0 := hI.code
    obtain rfl : R0 = rlN wd sl os xs ys n := H0.out hcode
    obtain rfl : R1 = 0 := H1.out.trans hcode
    have hll := rl_len wd sl os xs ys n
    have hlz : zs.length = n := by have := hI.len; rw [← this]; exact hll
    obtain ⟨cv, cc, hown⟩ := hI.cs
    have hIE := hI.E
    have hIs := hI.size
    rw [hlz] at hown
    obtain ⟨B, d, rfl, _⟩ := own_wrGate hown
    have r0 : W.cell? ⟨w.heap.size + 1 + 1, 0, none⟩ = _ := (hIE.cell (p := ⟨w.heap.size + 1 + 1, 0, none⟩) (show w.heap.size + 1 + 1 < _ from (by first | omega | (simp; done) | (simp; omega)))).trans pc0; have rf0 : W.frozen? ⟨w.heap.size + 1 + 1, 0, none⟩ = _ := (hIE.frozen (p := ⟨w.heap.size + 1 + 1, 0, none⟩) (show w.heap.size + 1 + 1 < _ from (by first | omega | (simp; done) | (simp; omega)))).trans pcf0
    have t0 : W.cell? ⟨w.heap.size + 1 + 1 + 1, 0, none⟩ = _ := (hIE.cell (p := ⟨w.heap.size + 1 + 1 + 1, 0, none⟩) (show w.heap.size + 1 + 1 + 1 < _ from (by first | omega | (simp; done) | (simp; omega)))).trans pd0; have tf0 : W.frozen? ⟨w.heap.size + 1 + 1 + 1, 0, none⟩ = _ := (hIE.frozen (p := ⟨w.heap.size + 1 + 1 + 1, 0, none⟩) (show w.heap.size + 1 + 1 + 1 < _ from (by first | omega | (simp; done) | (simp; omega)))).trans pdf0
    have n1 : (⟨w.heap.size + 1 + 1, 0, none⟩ : Addr) ≠ ⟨w.heap.size + 1 + 1 + 1, 0, none⟩ := fun g => by injection g with g;omega
    gi_wp2
    have hK2 := ((KeepsOthers.setCell W ⟨w.heap.size + 1 + 1, 0, none⟩ (.slice B n d)).trans (KeepsOthers.setCell _ ⟨w.heap.size + 1 + 1 + 1, 0, none⟩ (.int .i64 0))).same D _ hK rfl
    refine ⟨by simp, .inl ⟨_, _, rfl, run_takeDeferred hK2, ?_⟩⟩
    have hg3 := grownBy_putObj' ((W.setCell ⟨w.heap.size + 1 + 1, 0, none⟩ (.slice B n d)).setCell ⟨w.heap.size + 1 + 1 + 1, 0, none⟩ (.int .i64 0)) D (.deferred none)
    have hr3 : ∀ r, some D = some r → ∃ o : Obj, ((W.setCell ⟨w.heap.size + 1 + 1, 0, none⟩ (.slice B n d)).setCell ⟨w.heap.size + 1 + 1 + 1, 0, none⟩ (.int .i64 0)).heap[r]? = some o ∧ o.isCells = false := fun r e => by cases e; exact ⟨_, hK2, rfl⟩
    have x1 := cell_kept ((World.cell?_setCell_other _ _ _ _ (Ne.symm n1)).trans (World.cell?_setCell_same _ _  (.slice B n d) r0)) hg3 hr3
    have x2 := cell_kept (World.cell?_setCell_same _ _ (.int .i64 0) ((World.cell?_setCell_other _ _ _ (.slice B n d) n1).trans t0)) hg3 hr3
    have ho3 := own_kept ((hown.kept (gb_setCell W ⟨w.heap.size + 1 + 1, 0, none⟩ (.slice B n d)) (own_low hown (by show w.heap.size + 1 + 1 < V.heap.size + 4;omega))).kept (gb_setCell _ ⟨w.heap.size + 1 + 1 + 1, 0, none⟩ (.int .i64 0)) (own_low hown (by show w.heap.size + 1 + 1 + 1 < V.heap.size + 4;omega))) hg3 hr3
    have b3 := Below.grown (((d3.trans (hIE.mono (by omega))).setCell (p := ⟨w.heap.size + 1 + 1, 0, none⟩) (show w.heap.size ≤ w.heap.size + 1 + 1 by omega) (.slice B n d)).setCell (p := ⟨w.heap.size + 1 + 1 + 1, 0, none⟩) (show w.heap.size ≤ w.heap.size + 1 + 1 + 1 by omega) (.int .i64 0)) hg3 (by simp [World.setCell];omega) (fun k e => by cases e;omega)
    have hw := (own_wrGate ho3)
    obtain ⟨B', d', hBd, hw⟩ := hw
    injection hBd with e1 e2 e3
    subst e1
    exact ⟨.tuple #[.slice B n d, .int .i64 0], by simp [results, Try.results18, go_sem, x1, x2], B, ⟨d, rfl⟩, b3, (hw.lower (show w.heap.size ≤ V.heap.size + 4 by omega)).1, (hw.lower (show w.heap.size ≤ V.heap.size + 4 by omega)).2⟩
  case stop =>
    rintro D c' pre W hD hSp hIx hK
    obtain ⟨rfl, hx⟩ := hIx
    obtain ⟨k, hk, hv⟩ := hSp
    rw [hv, rfS_range] at hx
    have hne := hx.ne
    have e0 := re_stays wd sl os xs ys k n hne hk
    obtain rfl : R0 = [] := H0'.out (by rw [e0]; exact hne)
    have e1 : reN wd sl os xs ys k = R1 := by rw [H1.out, e0]
    change RunX w V (reN wd sl os xs ys k) W at hx
    rw [e1] at hx
    gi_wp2
    refine ⟨by simp, .inl ⟨_, _, rfl, run_takeDeferred hK, ?_⟩⟩
    have hx2 := hx.own (by omega) (grownBy_putObj' W D (.deferred none)) (fun r e => by cases e; exact ⟨by omega, _, hK, rfl⟩)
    exact ⟨.tuple #[.slice none 0 0, .int .i64 R1], by simp [results, Try.results18, go_sem, hx2.r0, hx2.r1], none, ⟨0, rfl⟩, hx2.B, by simp [csGate], fun h => absurd h (by omega)⟩

theorem sc3_dec {v r : Prop} [Decidable v] [Decidable r] (b c : Bool) (hb : b = decide v) (hc : c = true ↔ r) : sc3 v r = if b = true then (if c = true then 0 else 2) else 1 := by
  subst hb
  unfold sc3
  simp only [hc, decide_eq_true_iff]

set_option maxHeartbeats 3200000 in
theorem implC_RunSluice (a0_0 : Int) (a0_1 : Int) (a1 : Option Addr) (la1 ca1 : Nat) (xa1 : List Int) (a2 : Option Addr) (la2 ca2 : Nat) (xa2 : List Int) (a3 : Option Addr) (la3 ca3 : Nat) (xa3 : List Int) (w : World) (ha0_0 : (Lit.int .i64 a0_0).wf = true) (ha0_1 : (Lit.int .i64 a0_1).wf = true) (ha1 : la1 ≤ 1048576) (ra1 : Rd w w.heap.size a1 la1 xa1) (fa1 : Wf xa1) (ha2 : la2 ≤ 1048576) (ra2 : Rd w w.heap.size a2 la2 xa2) (fa2 : Wf xa2) (ha3 : la3 ≤ 1048576) (ra3 : Rd w w.heap.size a3 la3 xa3) (fa3 : Wf xa3) :
    Calls Try.prog 18 #[.agg #[.int .i64 a0_0, .int .i64 a0_1], .slice a1 la1 ca1, .slice a2 la2 ca2, .slice a3 la3 ca3] w fun e w' => ∃ B0 dB0, e = .returned (.tuple #[.slice B0 (r0_RunSluice a0_0 a0_1 xa1 xa2 xa3).length dB0, .int .i64 (r1_RunSluice a0_0 a0_1 xa1 xa2 xa3)]) ∧ Below w.heap.size w w' ∧ Wr_Gate w' w.heap.size B0 (r0_RunSluice a0_0 a0_1 xa1 xa2 xa3).length (r0_RunSluice a0_0 a0_1 xa1 xa2 xa3) := by
  have hl1 := ra1.1
  have hl2 := ra2.1
  have hl3 := ra3.1
  by_cases h : slOk a0_0 a0_1 ∧ rsOk la1 la2 la3 xa1 xa2 xa3
  · obtain ⟨hs, ⟨hh, e⟩, ho⟩ := h
    have e2 : la2 = la3 := hh.1.1
    subst e
    subst e2
    have hr : slOk a0_0 a0_1 ∧ rsOk xa1.length xa2.length xa3.length xa1 xa2 xa3 := by rw [hl1, hl2, hl3]; exact ⟨hs, ⟨hh, rfl⟩, ho⟩
    refine run_impl a0_0 a0_1 a1 a2 a3 la1 ca1 ca2 ca3 xa1 xa2 xa3 w hs hh ho ra1 ra2 ra3 _ _ (fun q => ?_) (fun q => ?_) ?_
    · unfold r0_RunSluice; rw [hl1] at hr ⊢; rw [if_pos ⟨hr, q⟩]
    · unfold r0_RunSluice; rw [hl1] at hr ⊢; rw [if_neg (fun g => q g.2)]
    · unfold r1_RunSluice; rw [hl1] at hr ⊢; rw [if_pos hr]
  · have hr : ¬ (slOk a0_0 a0_1 ∧ rsOk xa1.length xa2.length xa3.length xa1 xa2 xa3) := by rw [hl1, hl2, hl3]; exact h
    have e0 : r0_RunSluice a0_0 a0_1 xa1 xa2 xa3 = [] := by unfold r0_RunSluice; rw [if_neg (fun g => hr g.1)]
    have e1 : r1_RunSluice a0_0 a0_1 xa1 xa2 xa3 = sc3 (slOk a0_0 a0_1) (rsOk la1 la2 la3 xa1 xa2 xa3) := by unfold r1_RunSluice; rw [if_neg hr, hl1, hl2, hl3]
    rw [e0, e1]
    have hne := sc3_ne h
    obtain ⟨C, hC⟩ : ∃ C, C = sc3 (slOk a0_0 a0_1) (rsOk la1 la2 la3 xa1 xa2 xa3) := ⟨_, rfl⟩
    rw [← hC] at hne ⊢
    have e4 : (C != 0) = true := by simpa using hne
    obtain ⟨v, hv⟩ : ∃ v, v = decide (slOk a0_0 a0_1) := ⟨_, rfl⟩
    obtain ⟨u, hu⟩ : ∃ u, u = decide (hrOk la2 la3 xa2 xa3) := ⟨_, rfl⟩
    have RA := Lib.hid ra1
    have RB := Lib.hid ra2
    have RC := Lib.hid ra3
    have HV := Lib.hid hv
    have HU := Lib.hid hu
    have n1 : (⟨w.heap.size + 1 + 1, 0, none⟩ : Addr) ≠ ⟨w.heap.size + 1 + 1 + 1, 0, none⟩ := fun g => by injection g with g;omega
    cases u
    · have HK := Lib.hid (hC.trans (sc3_dec v false hv ⟨fun g => (by cases g), fun g => absurd (decide_eq_true g.1.1) (by rw [← hu]; simp)⟩))
      clear h hr e0 e1 hne hC hv hu ra1 ra2 ra3
      go_enter Try.func18, Try.ntmps18
      go_wp2_with (first | (go_at_call 53; refine (areHours_any _ _ _ _ _ _ xa2 xa3 _ ha2 ha3 ((RB.out.below (by repeat (first | assumption | exact Below.refl _ _ | (refine Below.setCell ?_ (by first | omega | (simp; done) | (simp; omega)) _) | apply below_drewN | apply Below.drew | (refine Below.alloc ?_ (by first | omega | (simp; done) | (simp; omega)) _)))).mono (by first | omega | (simp; done) | (simp; omega))) ((RC.out.below (by repeat (first | assumption | exact Below.refl _ _ | (refine Below.setCell ?_ (by first | omega | (simp; done) | (simp; omega)) _) | apply below_drewN | apply Below.drew | (refine Below.alloc ?_ (by first | omega | (simp; done) | (simp; omega)) _)))).mono (by first | omega | (simp; done) | (simp; omega))) false HU.out).mono ?_; rintro e1 W1 ⟨rfl, b1⟩; obtain ⟨k1, f1⟩ := bcell b1; have x0 : W1.cell? ⟨w.heap.size, 0, none⟩ = some (.int .i64 a0_0) := (by rw [k1 _ _ (by first | omega | (simp; done) | (simp; omega))]; first | (simp; done) | go_simp); have xf0 : W1.frozen? ⟨w.heap.size, 0, none⟩ = false := (by rw [f1 _ _ (by first | omega | (simp; done) | (simp; omega))]; first | (simp; done) | go_simp); have x1 : W1.cell? ⟨w.heap.size, 1, none⟩ = some (.int .i64 a0_1) := (by rw [k1 _ _ (by first | omega | (simp; done) | (simp; omega))]; first | (simp; done) | go_simp); have xf1 : W1.frozen? ⟨w.heap.size, 1, none⟩ = false := (by rw [f1 _ _ (by first | omega | (simp; done) | (simp; omega))]; first | (simp; done) | go_simp); have y0 : W1.cell? ⟨w.heap.size + 1, 0, none⟩ = some (.slice a1 la1 ca1) := (by rw [k1 _ _ (by first | omega | (simp; done) | (simp; omega))]; first | (simp; done) | go_simp); have yf0 : W1.frozen? ⟨w.heap.size + 1, 0, none⟩ = false := (by rw [f1 _ _ (by first | omega | (simp; done) | (simp; omega))]; first | (simp; done) | go_simp); have z0 : W1.cell? ⟨w.heap.size + 1 + 1, 0, none⟩ = some (.slice none 0 0) := (by rw [k1 _ _ (by first | omega | (simp; done) | (simp; omega))]; first | (simp; done) | go_simp); have zf0 : W1.frozen? ⟨w.heap.size + 1 + 1, 0, none⟩ = false := (by rw [f1 _ _ (by first | omega | (simp; done) | (simp; omega))]; first | (simp; done) | go_simp); have u0 : W1.cell? ⟨w.heap.size + 1 + 1 + 1, 0, none⟩ = some (.int .i64 0) := (by rw [k1 _ _ (by first | omega | (simp; done) | (simp; omega))]; first | (simp; done) | go_simp); have uf0 : W1.frozen? ⟨w.heap.size + 1 + 1 + 1, 0, none⟩ = false := (by rw [f1 _ _ (by first | omega | (simp; done) | (simp; omega))]; first | (simp; done) | go_simp); have d1 : Below w.heap.size w W1 := (by repeat (first | assumption | exact Below.refl _ _ | (refine Below.trans ?_ (b1.mono (by first | omega | (simp; done) | (simp; omega)))) | (refine Below.setCell ?_ (by first | omega | (simp; done) | (simp; omega)) _) | apply below_drewN | apply Below.drew | (refine Below.alloc ?_ (by first | omega | (simp; done) | (simp; omega)) _))); have s1 : w.heap.size + 1 + 1 + 1 < W1.heap.size := (by have := b1.size; (try simp at this);omega); clear k1 f1 b1) | (go_at_call 41; refine (sluI_any _ _ _ v HV.out).mono ?_; rintro e3 V ⟨rfl, b3⟩; have pa0 : V.cell? ⟨w.heap.size, 0, none⟩ = _ := (b3.cell (p := ⟨w.heap.size, 0, none⟩) (show w.heap.size < _ from (by first | omega | (simp; done) | (simp; omega)))).trans x0; have paf0 : V.frozen? ⟨w.heap.size, 0, none⟩ = _ := (b3.frozen (p := ⟨w.heap.size, 0, none⟩) (show w.heap.size < _ from (by first | omega | (simp; done) | (simp; omega)))).trans xf0; have pa1 : V.cell? ⟨w.heap.size, 1, none⟩ = _ := (b3.cell (p := ⟨w.heap.size, 1, none⟩) (show w.heap.size < _ from (by first | omega | (simp; done) | (simp; omega)))).trans x1; have paf1 : V.frozen? ⟨w.heap.size, 1, none⟩ = _ := (b3.frozen (p := ⟨w.heap.size, 1, none⟩) (show w.heap.size < _ from (by first | omega | (simp; done) | (simp; omega)))).trans xf1; have pb0 : V.cell? ⟨w.heap.size + 1, 0, none⟩ = _ := (b3.cell (p := ⟨w.heap.size + 1, 0, none⟩) (show w.heap.size + 1 < _ from (by first | omega | (simp; done) | (simp; omega)))).trans y0; have pbf0 : V.frozen? ⟨w.heap.size + 1, 0, none⟩ = _ := (b3.frozen (p := ⟨w.heap.size + 1, 0, none⟩) (show w.heap.size + 1 < _ from (by first | omega | (simp; done) | (simp; omega)))).trans yf0; have pc0 : V.cell? ⟨w.heap.size + 1 + 1, 0, none⟩ = _ := (b3.cell (p := ⟨w.heap.size + 1 + 1, 0, none⟩) (show w.heap.size + 1 + 1 < _ from (by first | omega | (simp; done) | (simp; omega)))).trans z0; have pcf0 : V.frozen? ⟨w.heap.size + 1 + 1, 0, none⟩ = _ := (b3.frozen (p := ⟨w.heap.size + 1 + 1, 0, none⟩) (show w.heap.size + 1 + 1 < _ from (by first | omega | (simp; done) | (simp; omega)))).trans zf0; have pd0 : V.cell? ⟨w.heap.size + 1 + 1 + 1, 0, none⟩ = _ := (b3.cell (p := ⟨w.heap.size + 1 + 1 + 1, 0, none⟩) (show w.heap.size + 1 + 1 + 1 < _ from (by first | omega | (simp; done) | (simp; omega)))).trans u0; have pdf0 : V.frozen? ⟨w.heap.size + 1 + 1 + 1, 0, none⟩ = _ := (b3.frozen (p := ⟨w.heap.size + 1 + 1 + 1, 0, none⟩) (show w.heap.size + 1 + 1 + 1 < _ from (by first | omega | (simp; done) | (simp; omega)))).trans uf0; have d3 : Below w.heap.size w V := (by repeat (first | assumption | exact Below.refl _ _ | (refine Below.trans ?_ (b3.mono (by first | omega | (simp; done) | (simp; omega)))) | (refine Below.trans ?_ (d1.mono (by first | omega | (simp; done) | (simp; omega)))) | (refine Below.setCell ?_ (by first | omega | (simp; done) | (simp; omega)) _) | apply below_drewN | apply Below.drew | (refine Below.alloc ?_ (by first | omega | (simp; done) | (simp; omega)) _))); have s3 : w.heap.size + 1 + 1 + 1 < V.heap.size := (by have := b3.size; (try simp at this);omega); clear b3) | (go_at_call 40; refine (codeFor_k v false _ C (by have := HK.out; simpa using this)).mono ?_; rintro e4 w4 ⟨rfl, rfl⟩))
      have z0 : ((V.setCell ⟨w.heap.size + 1 + 1, 0, none⟩ (.slice none 0 0)).setCell ⟨w.heap.size + 1 + 1 + 1, 0, none⟩ (.int .i64 C)).cell? ⟨w.heap.size + 1 + 1, 0, none⟩ = some (.slice none 0 0) := (World.cell?_setCell_other _ _ _ _ (Ne.symm n1)).trans (World.cell?_setCell_same _ _ _ pc0)
      have z1 : ((V.setCell ⟨w.heap.size + 1 + 1, 0, none⟩ (.slice none 0 0)).setCell ⟨w.heap.size + 1 + 1 + 1, 0, none⟩ (.int .i64 C)).cell? ⟨w.heap.size + 1 + 1 + 1, 0, none⟩ = some (.int .i64 C) := World.cell?_setCell_same _ _ _ ((World.cell?_setCell_other _ _ _ _ n1).trans pd0)
      exact bodyPost_ret (v := .tuple #[.slice none 0 0, .int .i64 C]) (by simp [results, Try.results18, go_sem, z0, z1]) rfl ⟨none, 0, rfl, (d3.setCell (p := ⟨w.heap.size + 1 + 1, 0, none⟩) (show w.heap.size ≤ w.heap.size + 1 + 1 by omega) _).setCell (p := ⟨w.heap.size + 1 + 1 + 1, 0, none⟩) (show w.heap.size ≤ w.heap.size + 1 + 1 + 1 by omega) _, rfl, fun h => absurd h (by simp)⟩
    · by_cases hl : la1 = la2
      · subst hl
        obtain ⟨o, ho⟩ : ∃ o, o = decide (allIn 0 2 la1 xa1) := ⟨_, rfl⟩
        have HOO : Hid (o = true ↔ allIn 0 2 la1 xa1) := by rw [ho]; exact decide_eq_true_iff
        have HK := Lib.hid (hC.trans (sc3_dec v o hv ⟨fun g => ⟨⟨of_decide_eq_true hu.symm, rfl⟩, of_decide_eq_true (ho.symm.trans g)⟩, fun g => ho.trans (decide_eq_true g.2)⟩))
        clear h hr e0 e1 hne hC hv hu ho ra1 ra2 ra3
        go_enter Try.func18, Try.ntmps18
        go_wp2_with (first | (go_at_call 53; refine (areHours_any _ _ _ _ _ _ xa2 xa3 _ ha2 ha3 ((RB.out.below (by repeat (first | assumption | exact Below.refl _ _ | (refine Below.setCell ?_ (by first | omega | (simp; done) | (simp; omega)) _) | apply below_drewN | apply Below.drew | (refine Below.alloc ?_ (by first | omega | (simp; done) | (simp; omega)) _)))).mono (by first | omega | (simp; done) | (simp; omega))) ((RC.out.below (by repeat (first | assumption | exact Below.refl _ _ | (refine Below.setCell ?_ (by first | omega | (simp; done) | (simp; omega)) _) | apply below_drewN | apply Below.drew | (refine Below.alloc ?_ (by first | omega | (simp; done) | (simp; omega)) _)))).mono (by first | omega | (simp; done) | (simp; omega))) true HU.out).mono ?_; rintro e1 W1 ⟨rfl, b1⟩; obtain ⟨k1, f1⟩ := bcell b1; have x0 : W1.cell? ⟨w.heap.size, 0, none⟩ = some (.int .i64 a0_0) := (by rw [k1 _ _ (by first | omega | (simp; done) | (simp; omega))]; first | (simp; done) | go_simp); have xf0 : W1.frozen? ⟨w.heap.size, 0, none⟩ = false := (by rw [f1 _ _ (by first | omega | (simp; done) | (simp; omega))]; first | (simp; done) | go_simp); have x1 : W1.cell? ⟨w.heap.size, 1, none⟩ = some (.int .i64 a0_1) := (by rw [k1 _ _ (by first | omega | (simp; done) | (simp; omega))]; first | (simp; done) | go_simp); have xf1 : W1.frozen? ⟨w.heap.size, 1, none⟩ = false := (by rw [f1 _ _ (by first | omega | (simp; done) | (simp; omega))]; first | (simp; done) | go_simp); have y0 : W1.cell? ⟨w.heap.size + 1, 0, none⟩ = some (.slice a1 la1 ca1) := (by rw [k1 _ _ (by first | omega | (simp; done) | (simp; omega))]; first | (simp; done) | go_simp); have yf0 : W1.frozen? ⟨w.heap.size + 1, 0, none⟩ = false := (by rw [f1 _ _ (by first | omega | (simp; done) | (simp; omega))]; first | (simp; done) | go_simp); have z0 : W1.cell? ⟨w.heap.size + 1 + 1, 0, none⟩ = some (.slice none 0 0) := (by rw [k1 _ _ (by first | omega | (simp; done) | (simp; omega))]; first | (simp; done) | go_simp); have zf0 : W1.frozen? ⟨w.heap.size + 1 + 1, 0, none⟩ = false := (by rw [f1 _ _ (by first | omega | (simp; done) | (simp; omega))]; first | (simp; done) | go_simp); have u0 : W1.cell? ⟨w.heap.size + 1 + 1 + 1, 0, none⟩ = some (.int .i64 0) := (by rw [k1 _ _ (by first | omega | (simp; done) | (simp; omega))]; first | (simp; done) | go_simp); have uf0 : W1.frozen? ⟨w.heap.size + 1 + 1 + 1, 0, none⟩ = false := (by rw [f1 _ _ (by first | omega | (simp; done) | (simp; omega))]; first | (simp; done) | go_simp); have d1 : Below w.heap.size w W1 := (by repeat (first | assumption | exact Below.refl _ _ | (refine Below.trans ?_ (b1.mono (by first | omega | (simp; done) | (simp; omega)))) | (refine Below.setCell ?_ (by first | omega | (simp; done) | (simp; omega)) _) | apply below_drewN | apply Below.drew | (refine Below.alloc ?_ (by first | omega | (simp; done) | (simp; omega)) _))); have s1 : w.heap.size + 1 + 1 + 1 < W1.heap.size := (by have := b1.size; (try simp at this);omega); clear k1 f1 b1) | (go_at_call 50; refine (areOrders_any _ _ _ xa1 _ ha1 ((RA.out.below (by repeat (first | assumption | exact Below.refl _ _ | (refine Below.setCell ?_ (by first | omega | (simp; done) | (simp; omega)) _) | apply below_drewN | apply Below.drew | (refine Below.alloc ?_ (by first | omega | (simp; done) | (simp; omega)) _)))).mono (by first | omega | (simp; done) | (simp; omega))) o HOO.out).mono ?_; rintro e2 W2 ⟨rfl, b2⟩; have xx0 : W2.cell? ⟨w.heap.size, 0, none⟩ = _ := (b2.cell (p := ⟨w.heap.size, 0, none⟩) (show w.heap.size < _ from (by first | omega | (simp; done) | (simp; omega)))).trans x0; have xxf0 : W2.frozen? ⟨w.heap.size, 0, none⟩ = _ := (b2.frozen (p := ⟨w.heap.size, 0, none⟩) (show w.heap.size < _ from (by first | omega | (simp; done) | (simp; omega)))).trans xf0; have xx1 : W2.cell? ⟨w.heap.size, 1, none⟩ = _ := (b2.cell (p := ⟨w.heap.size, 1, none⟩) (show w.heap.size < _ from (by first | omega | (simp; done) | (simp; omega)))).trans x1; have xxf1 : W2.frozen? ⟨w.heap.size, 1, none⟩ = _ := (b2.frozen (p := ⟨w.heap.size, 1, none⟩) (show w.heap.size < _ from (by first | omega | (simp; done) | (simp; omega)))).trans xf1; have yy0 : W2.cell? ⟨w.heap.size + 1, 0, none⟩ = _ := (b2.cell (p := ⟨w.heap.size + 1, 0, none⟩) (show w.heap.size + 1 < _ from (by first | omega | (simp; done) | (simp; omega)))).trans y0; have yyf0 : W2.frozen? ⟨w.heap.size + 1, 0, none⟩ = _ := (b2.frozen (p := ⟨w.heap.size + 1, 0, none⟩) (show w.heap.size + 1 < _ from (by first | omega | (simp; done) | (simp; omega)))).trans yf0; have zz0 : W2.cell? ⟨w.heap.size + 1 + 1, 0, none⟩ = _ := (b2.cell (p := ⟨w.heap.size + 1 + 1, 0, none⟩) (show w.heap.size + 1 + 1 < _ from (by first | omega | (simp; done) | (simp; omega)))).trans z0; have zzf0 : W2.frozen? ⟨w.heap.size + 1 + 1, 0, none⟩ = _ := (b2.frozen (p := ⟨w.heap.size + 1 + 1, 0, none⟩) (show w.heap.size + 1 + 1 < _ from (by first | omega | (simp; done) | (simp; omega)))).trans zf0; have uu0 : W2.cell? ⟨w.heap.size + 1 + 1 + 1, 0, none⟩ = _ := (b2.cell (p := ⟨w.heap.size + 1 + 1 + 1, 0, none⟩) (show w.heap.size + 1 + 1 + 1 < _ from (by first | omega | (simp; done) | (simp; omega)))).trans u0; have uuf0 : W2.frozen? ⟨w.heap.size + 1 + 1 + 1, 0, none⟩ = _ := (b2.frozen (p := ⟨w.heap.size + 1 + 1 + 1, 0, none⟩) (show w.heap.size + 1 + 1 + 1 < _ from (by first | omega | (simp; done) | (simp; omega)))).trans uf0; have d2 : Below w.heap.size w W2 := (by repeat (first | assumption | exact Below.refl _ _ | (refine Below.trans ?_ (b2.mono (by first | omega | (simp; done) | (simp; omega)))) | (refine Below.trans ?_ (d1.mono (by first | omega | (simp; done) | (simp; omega)))) | (refine Below.setCell ?_ (by first | omega | (simp; done) | (simp; omega)) _) | apply below_drewN | apply Below.drew | (refine Below.alloc ?_ (by first | omega | (simp; done) | (simp; omega)) _))); have s2 : w.heap.size + 1 + 1 + 1 < W2.heap.size := (by have := b2.size; (try simp at this);omega); clear b2) | (go_at_call 41; refine (sluI_any _ _ _ v HV.out).mono ?_; rintro e3 V ⟨rfl, b3⟩; have pa0 : V.cell? ⟨w.heap.size, 0, none⟩ = _ := (b3.cell (p := ⟨w.heap.size, 0, none⟩) (show w.heap.size < _ from (by first | omega | (simp; done) | (simp; omega)))).trans xx0; have paf0 : V.frozen? ⟨w.heap.size, 0, none⟩ = _ := (b3.frozen (p := ⟨w.heap.size, 0, none⟩) (show w.heap.size < _ from (by first | omega | (simp; done) | (simp; omega)))).trans xxf0; have pa1 : V.cell? ⟨w.heap.size, 1, none⟩ = _ := (b3.cell (p := ⟨w.heap.size, 1, none⟩) (show w.heap.size < _ from (by first | omega | (simp; done) | (simp; omega)))).trans xx1; have paf1 : V.frozen? ⟨w.heap.size, 1, none⟩ = _ := (b3.frozen (p := ⟨w.heap.size, 1, none⟩) (show w.heap.size < _ from (by first | omega | (simp; done) | (simp; omega)))).trans xxf1; have pb0 : V.cell? ⟨w.heap.size + 1, 0, none⟩ = _ := (b3.cell (p := ⟨w.heap.size + 1, 0, none⟩) (show w.heap.size + 1 < _ from (by first | omega | (simp; done) | (simp; omega)))).trans yy0; have pbf0 : V.frozen? ⟨w.heap.size + 1, 0, none⟩ = _ := (b3.frozen (p := ⟨w.heap.size + 1, 0, none⟩) (show w.heap.size + 1 < _ from (by first | omega | (simp; done) | (simp; omega)))).trans yyf0; have pc0 : V.cell? ⟨w.heap.size + 1 + 1, 0, none⟩ = _ := (b3.cell (p := ⟨w.heap.size + 1 + 1, 0, none⟩) (show w.heap.size + 1 + 1 < _ from (by first | omega | (simp; done) | (simp; omega)))).trans zz0; have pcf0 : V.frozen? ⟨w.heap.size + 1 + 1, 0, none⟩ = _ := (b3.frozen (p := ⟨w.heap.size + 1 + 1, 0, none⟩) (show w.heap.size + 1 + 1 < _ from (by first | omega | (simp; done) | (simp; omega)))).trans zzf0; have pd0 : V.cell? ⟨w.heap.size + 1 + 1 + 1, 0, none⟩ = _ := (b3.cell (p := ⟨w.heap.size + 1 + 1 + 1, 0, none⟩) (show w.heap.size + 1 + 1 + 1 < _ from (by first | omega | (simp; done) | (simp; omega)))).trans uu0; have pdf0 : V.frozen? ⟨w.heap.size + 1 + 1 + 1, 0, none⟩ = _ := (b3.frozen (p := ⟨w.heap.size + 1 + 1 + 1, 0, none⟩) (show w.heap.size + 1 + 1 + 1 < _ from (by first | omega | (simp; done) | (simp; omega)))).trans uuf0; have d3 : Below w.heap.size w V := (by repeat (first | assumption | exact Below.refl _ _ | (refine Below.trans ?_ (b3.mono (by first | omega | (simp; done) | (simp; omega)))) | (refine Below.trans ?_ (d2.mono (by first | omega | (simp; done) | (simp; omega)))) | (refine Below.setCell ?_ (by first | omega | (simp; done) | (simp; omega)) _) | apply below_drewN | apply Below.drew | (refine Below.alloc ?_ (by first | omega | (simp; done) | (simp; omega)) _))); have s3 : w.heap.size + 1 + 1 + 1 < V.heap.size := (by have := b3.size; (try simp at this);omega); clear b3) | (go_at_call 40; refine (codeFor_k v o _ C (by have := HK.out; simpa using this)).mono ?_; rintro e4 w4 ⟨rfl, rfl⟩))
        have z0 : ((V.setCell ⟨w.heap.size + 1 + 1, 0, none⟩ (.slice none 0 0)).setCell ⟨w.heap.size + 1 + 1 + 1, 0, none⟩ (.int .i64 C)).cell? ⟨w.heap.size + 1 + 1, 0, none⟩ = some (.slice none 0 0) := (World.cell?_setCell_other _ _ _ _ (Ne.symm n1)).trans (World.cell?_setCell_same _ _ _ pc0)
        have z1 : ((V.setCell ⟨w.heap.size + 1 + 1, 0, none⟩ (.slice none 0 0)).setCell ⟨w.heap.size + 1 + 1 + 1, 0, none⟩ (.int .i64 C)).cell? ⟨w.heap.size + 1 + 1 + 1, 0, none⟩ = some (.int .i64 C) := World.cell?_setCell_same _ _ _ ((World.cell?_setCell_other _ _ _ _ n1).trans pd0)
        exact bodyPost_ret (v := .tuple #[.slice none 0 0, .int .i64 C]) (by simp [results, Try.results18, go_sem, z0, z1]) rfl ⟨none, 0, rfl, (d3.setCell (p := ⟨w.heap.size + 1 + 1, 0, none⟩) (show w.heap.size ≤ w.heap.size + 1 + 1 by omega) _).setCell (p := ⟨w.heap.size + 1 + 1 + 1, 0, none⟩) (show w.heap.size ≤ w.heap.size + 1 + 1 + 1 by omega) _, rfl, fun h => absurd h (by simp)⟩
      · have HK := Lib.hid (hC.trans (sc3_dec v false hv ⟨fun g => (by cases g), fun g => absurd g.1.2 hl⟩))
        have e9 : ((la1 : Int) == (la2 : Int)) = false := by simp;omega
        clear h hr e0 e1 hne hC hv hu hl ra1 ra2 ra3
        go_enter Try.func18, Try.ntmps18
        go_wp2_with (first | (go_at_call 53; refine (areHours_any _ _ _ _ _ _ xa2 xa3 _ ha2 ha3 ((RB.out.below (by repeat (first | assumption | exact Below.refl _ _ | (refine Below.setCell ?_ (by first | omega | (simp; done) | (simp; omega)) _) | apply below_drewN | apply Below.drew | (refine Below.alloc ?_ (by first | omega | (simp; done) | (simp; omega)) _)))).mono (by first | omega | (simp; done) | (simp; omega))) ((RC.out.below (by repeat (first | assumption | exact Below.refl _ _ | (refine Below.setCell ?_ (by first | omega | (simp; done) | (simp; omega)) _) | apply below_drewN | apply Below.drew | (refine Below.alloc ?_ (by first | omega | (simp; done) | (simp; omega)) _)))).mono (by first | omega | (simp; done) | (simp; omega))) true HU.out).mono ?_; rintro e1 W1 ⟨rfl, b1⟩; obtain ⟨k1, f1⟩ := bcell b1; have x0 : W1.cell? ⟨w.heap.size, 0, none⟩ = some (.int .i64 a0_0) := (by rw [k1 _ _ (by first | omega | (simp; done) | (simp; omega))]; first | (simp; done) | go_simp); have xf0 : W1.frozen? ⟨w.heap.size, 0, none⟩ = false := (by rw [f1 _ _ (by first | omega | (simp; done) | (simp; omega))]; first | (simp; done) | go_simp); have x1 : W1.cell? ⟨w.heap.size, 1, none⟩ = some (.int .i64 a0_1) := (by rw [k1 _ _ (by first | omega | (simp; done) | (simp; omega))]; first | (simp; done) | go_simp); have xf1 : W1.frozen? ⟨w.heap.size, 1, none⟩ = false := (by rw [f1 _ _ (by first | omega | (simp; done) | (simp; omega))]; first | (simp; done) | go_simp); have y0 : W1.cell? ⟨w.heap.size + 1, 0, none⟩ = some (.slice a1 la1 ca1) := (by rw [k1 _ _ (by first | omega | (simp; done) | (simp; omega))]; first | (simp; done) | go_simp); have yf0 : W1.frozen? ⟨w.heap.size + 1, 0, none⟩ = false := (by rw [f1 _ _ (by first | omega | (simp; done) | (simp; omega))]; first | (simp; done) | go_simp); have z0 : W1.cell? ⟨w.heap.size + 1 + 1, 0, none⟩ = some (.slice none 0 0) := (by rw [k1 _ _ (by first | omega | (simp; done) | (simp; omega))]; first | (simp; done) | go_simp); have zf0 : W1.frozen? ⟨w.heap.size + 1 + 1, 0, none⟩ = false := (by rw [f1 _ _ (by first | omega | (simp; done) | (simp; omega))]; first | (simp; done) | go_simp); have u0 : W1.cell? ⟨w.heap.size + 1 + 1 + 1, 0, none⟩ = some (.int .i64 0) := (by rw [k1 _ _ (by first | omega | (simp; done) | (simp; omega))]; first | (simp; done) | go_simp); have uf0 : W1.frozen? ⟨w.heap.size + 1 + 1 + 1, 0, none⟩ = false := (by rw [f1 _ _ (by first | omega | (simp; done) | (simp; omega))]; first | (simp; done) | go_simp); have d1 : Below w.heap.size w W1 := (by repeat (first | assumption | exact Below.refl _ _ | (refine Below.trans ?_ (b1.mono (by first | omega | (simp; done) | (simp; omega)))) | (refine Below.setCell ?_ (by first | omega | (simp; done) | (simp; omega)) _) | apply below_drewN | apply Below.drew | (refine Below.alloc ?_ (by first | omega | (simp; done) | (simp; omega)) _))); have s1 : w.heap.size + 1 + 1 + 1 < W1.heap.size := (by have := b1.size; (try simp at this);omega); clear k1 f1 b1) | (go_at_call 41; refine (sluI_any _ _ _ v HV.out).mono ?_; rintro e3 V ⟨rfl, b3⟩; have pa0 : V.cell? ⟨w.heap.size, 0, none⟩ = _ := (b3.cell (p := ⟨w.heap.size, 0, none⟩) (show w.heap.size < _ from (by first | omega | (simp; done) | (simp; omega)))).trans x0; have paf0 : V.frozen? ⟨w.heap.size, 0, none⟩ = _ := (b3.frozen (p := ⟨w.heap.size, 0, none⟩) (show w.heap.size < _ from (by first | omega | (simp; done) | (simp; omega)))).trans xf0; have pa1 : V.cell? ⟨w.heap.size, 1, none⟩ = _ := (b3.cell (p := ⟨w.heap.size, 1, none⟩) (show w.heap.size < _ from (by first | omega | (simp; done) | (simp; omega)))).trans x1; have paf1 : V.frozen? ⟨w.heap.size, 1, none⟩ = _ := (b3.frozen (p := ⟨w.heap.size, 1, none⟩) (show w.heap.size < _ from (by first | omega | (simp; done) | (simp; omega)))).trans xf1; have pb0 : V.cell? ⟨w.heap.size + 1, 0, none⟩ = _ := (b3.cell (p := ⟨w.heap.size + 1, 0, none⟩) (show w.heap.size + 1 < _ from (by first | omega | (simp; done) | (simp; omega)))).trans y0; have pbf0 : V.frozen? ⟨w.heap.size + 1, 0, none⟩ = _ := (b3.frozen (p := ⟨w.heap.size + 1, 0, none⟩) (show w.heap.size + 1 < _ from (by first | omega | (simp; done) | (simp; omega)))).trans yf0; have pc0 : V.cell? ⟨w.heap.size + 1 + 1, 0, none⟩ = _ := (b3.cell (p := ⟨w.heap.size + 1 + 1, 0, none⟩) (show w.heap.size + 1 + 1 < _ from (by first | omega | (simp; done) | (simp; omega)))).trans z0; have pcf0 : V.frozen? ⟨w.heap.size + 1 + 1, 0, none⟩ = _ := (b3.frozen (p := ⟨w.heap.size + 1 + 1, 0, none⟩) (show w.heap.size + 1 + 1 < _ from (by first | omega | (simp; done) | (simp; omega)))).trans zf0; have pd0 : V.cell? ⟨w.heap.size + 1 + 1 + 1, 0, none⟩ = _ := (b3.cell (p := ⟨w.heap.size + 1 + 1 + 1, 0, none⟩) (show w.heap.size + 1 + 1 + 1 < _ from (by first | omega | (simp; done) | (simp; omega)))).trans u0; have pdf0 : V.frozen? ⟨w.heap.size + 1 + 1 + 1, 0, none⟩ = _ := (b3.frozen (p := ⟨w.heap.size + 1 + 1 + 1, 0, none⟩) (show w.heap.size + 1 + 1 + 1 < _ from (by first | omega | (simp; done) | (simp; omega)))).trans uf0; have d3 : Below w.heap.size w V := (by repeat (first | assumption | exact Below.refl _ _ | (refine Below.trans ?_ (b3.mono (by first | omega | (simp; done) | (simp; omega)))) | (refine Below.trans ?_ (d1.mono (by first | omega | (simp; done) | (simp; omega)))) | (refine Below.setCell ?_ (by first | omega | (simp; done) | (simp; omega)) _) | apply below_drewN | apply Below.drew | (refine Below.alloc ?_ (by first | omega | (simp; done) | (simp; omega)) _))); have s3 : w.heap.size + 1 + 1 + 1 < V.heap.size := (by have := b3.size; (try simp at this);omega); clear b3) | (go_at_call 40; refine (codeFor_k v false _ C (by have := HK.out; simpa using this)).mono ?_; rintro e4 w4 ⟨rfl, rfl⟩))
        have z0 : ((V.setCell ⟨w.heap.size + 1 + 1, 0, none⟩ (.slice none 0 0)).setCell ⟨w.heap.size + 1 + 1 + 1, 0, none⟩ (.int .i64 C)).cell? ⟨w.heap.size + 1 + 1, 0, none⟩ = some (.slice none 0 0) := (World.cell?_setCell_other _ _ _ _ (Ne.symm n1)).trans (World.cell?_setCell_same _ _ _ pc0)
        have z1 : ((V.setCell ⟨w.heap.size + 1 + 1, 0, none⟩ (.slice none 0 0)).setCell ⟨w.heap.size + 1 + 1 + 1, 0, none⟩ (.int .i64 C)).cell? ⟨w.heap.size + 1 + 1 + 1, 0, none⟩ = some (.int .i64 C) := World.cell?_setCell_same _ _ _ ((World.cell?_setCell_other _ _ _ _ n1).trans pd0)
        exact bodyPost_ret (v := .tuple #[.slice none 0 0, .int .i64 C]) (by simp [results, Try.results18, go_sem, z0, z1]) rfl ⟨none, 0, rfl, (d3.setCell (p := ⟨w.heap.size + 1 + 1, 0, none⟩) (show w.heap.size ≤ w.heap.size + 1 + 1 by omega) _).setCell (p := ⟨w.heap.size + 1 + 1 + 1, 0, none⟩) (show w.heap.size ≤ w.heap.size + 1 + 1 + 1 by omega) _, rfl, fun h => absurd h (by simp)⟩

end Go.Proofs.Ytcimigaimlojlaa
