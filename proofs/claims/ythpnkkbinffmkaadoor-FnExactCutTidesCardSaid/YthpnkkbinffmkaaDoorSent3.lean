/- Three sentinels: what their variables hold; which code an error has. -/
import Derived.Test.YthpnkkbinffmkaaDoorIs
import Derived.Test.YthpnkkbinffmkaaDoorReg
import Derived.Test.YthpnkkbinffmkaaDoorLaid
import Derived.Stop.LaidTwo
namespace Go.Proofs.YthpnkkbinffmkaaDoor
open Go.RowKit

/-- fewer listed variables, no less met -/
theorem laidVars_sub {P : Program} {w : World} : ∀ {l l' : List (String × DataW Unit)} {ps : List MemPlace}, DataW.LaidVars P w l ps → l'.Sublist l → ∃ qs, DataW.LaidVars P w l' qs ∧ qs.Sublist ps := by
  intro l
  induction l with
  | nil =>
    intro l' ps h hs
    obtain rfl := List.sublist_nil.1 hs
    exact ⟨ps, h, List.Sublist.refl _⟩
  | cons x l ih =>
    intro l' ps h hs
    obtain ⟨n, d⟩ := x
    obtain ⟨g, t, cs, fu, p, q, h1, h2, h3, h4, h5, rfl⟩ := h
    cases hs with
    | cons _ hs =>
      obtain ⟨qs, k1, k2⟩ := ih h5 hs
      exact ⟨qs, k1, k2.trans (List.sublist_append_right _ _)⟩
    | cons_cons _ hs =>
      obtain ⟨qs, k1, k2⟩ := ih h5 hs
      exact ⟨_, ⟨g, t, cs, fu, p, qs, h1, h2, h3, h4, k1, rfl⟩, (List.Sublist.refl _).append k2⟩
theorem laidMet_sub {P : Program} {w : World} {l l' : List (String × DataW Unit)} (h : laidMet P l w) (hs : l'.Sublist l) : laidMet P l' w := by
  obtain ⟨ps, h1, h2, h3⟩ := h
  obtain ⟨qs, k1, k2⟩ := laidVars_sub h1 hs
  exact ⟨qs, k1, k2.nodup h2, fun b off hm => h3 b off (k2.subset hm)⟩

/-- the three package-level variables hold pointers to three errors; their blocks are below B -/
structure Sent (w : World) (B : Nat) (a0 a1 a2 : Addr) : Prop where
  v0 : w.cell? ⟨1, 0, none⟩ = some (.iface 122 (.pointer (some a0)))
  v1 : w.cell? ⟨2, 0, none⟩ = some (.iface 122 (.pointer (some a1)))
  v2 : w.cell? ⟨0, 0, none⟩ = some (.iface 122 (.pointer (some a2)))
  n01 : a0 ≠ a1
  n02 : a0 ≠ a2
  n12 : a1 ≠ a2
  r0 : ∃ c t, w.heap[a0.block]? = some (.cells c t (0, 0))
  r1 : ∃ c t, w.heap[a1.block]? = some (.cells c t (0, 0))
  r2 : ∃ c t, w.heap[a2.block]? = some (.cells c t (0, 0))
  b : 2 < B
  b0 : a0.block < B
  b1 : a1.block < B
  b2 : a2.block < B
theorem Sent.below {w w' : World} {B : Nat} {a0 a1 a2 : Addr} (h : Sent w B a0 a1 a2) (hb : Below B w w') : Sent w' B a0 a1 a2 := by
  have := h.b
  exact ⟨(hb.cell (p := ⟨1, 0, none⟩) (show 1 < B by omega)).trans h.v0, (hb.cell (p := ⟨2, 0, none⟩) h.b).trans h.v1, (hb.cell (p := ⟨0, 0, none⟩) (show 0 < B by omega)).trans h.v2, h.n01, h.n02, h.n12,
   by obtain ⟨c, t, e⟩ := h.r0; exact ⟨c, t, (hb.block _ h.b0).trans e⟩, by obtain ⟨c, t, e⟩ := h.r1; exact ⟨c, t, (hb.block _ h.b1).trans e⟩, by obtain ⟨c, t, e⟩ := h.r2; exact ⟨c, t, (hb.block _ h.b2).trans e⟩, h.b, h.b0, h.b1, h.b2⟩
theorem Sent.mono {w : World} {B B' : Nat} {a0 a1 a2 : Addr} (h : Sent w B a0 a1 a2) (hB : B ≤ B') : Sent w B' a0 a1 a2 :=
  ⟨h.v0, h.v1, h.v2, h.n01, h.n02, h.n12, h.r0, h.r1, h.r2, Nat.lt_of_lt_of_le h.b hB, Nat.lt_of_lt_of_le h.b0 hB, Nat.lt_of_lt_of_le h.b1 hB, Nat.lt_of_lt_of_le h.b2 hB⟩

theorem starES : ("*errors.errorString" : String) = "*" ++ "errors.errorString" := by decide
theorem rowES (u : TypeId) (h : (Tryd.prog).typeName? 3 u = some "*errors.errorString") : u = 122 :=
  typeName_ptr_named (nm := "errors.errorString") (by rw [← starES]; kernel_rfl) (by kernel_rfl) (by decide) u (by rw [← starES]; exact h)

theorem sent_of {W : World} (h : laidMetH Tryd.prog [("loop.example/g01032/impl.errBeyond", Rows.laid_loop_example_g01032_impl_errBeyond), ("loop.example/g01032/impl.errFlat", Rows.laid_loop_example_g01032_impl_errFlat), ("loop.example/g01032/impl.errNeverBelow", Rows.laid_loop_example_g01032_impl_errNeverBelow)] W) : ∃ a0 a1 a2, Sent W W.heap.size a0 a1 a2 := by
  rw [MakeChecks.laidMetH_plain _ _ _ (by kernel_rfl)] at h
  have hg0 : (Tryd.prog).globalNamed "loop.example/g01032/impl.errBeyond" = some 1 := by kernel_rfl
  have hg1 : (Tryd.prog).globalNamed "loop.example/g01032/impl.errFlat" = some 2 := by kernel_rfl
  have hg2 : (Tryd.prog).globalNamed "loop.example/g01032/impl.errNeverBelow" = some 0 := by kernel_rfl
  obtain ⟨a0, a1, s0, s1, c0, c1, t0, t1, hv0, hv1, hc0, hs0, hz0, hc1, hs1, hz1, hne, hb0, hb1⟩ := laid_sentinels2 h hg0 (by kernel_rfl) hg1 (by kernel_rfl) Tryd.underlying58 rowES Tryd.underlying122 Tryd.underlying148 rfl rfl Tryd.underlying9 (by kernel_rfl) (by kernel_rfl)
  obtain ⟨x0, x2, _, _, _, _, _, _, hx0, hx2, _, _, _, _, _, _, hn02, _, _⟩ := laid_sentinels2 (laidMet_sub h (List.Sublist.cons_cons _ (List.Sublist.cons _ (List.Sublist.refl _)))) hg0 (by kernel_rfl) hg2 (by kernel_rfl) Tryd.underlying58 rowES Tryd.underlying122 Tryd.underlying148 rfl rfl Tryd.underlying9 (by kernel_rfl) (by kernel_rfl)
  obtain ⟨y1, y2, _, _, d1, d2, u1, u2, hy1, hy2, _, _, _, hcy, _, _, hn12, _, hb2⟩ := laid_sentinels2 (laidMet_sub h (List.Sublist.cons _ (List.Sublist.refl _))) hg1 (by kernel_rfl) hg2 (by kernel_rfl) Tryd.underlying58 rowES Tryd.underlying122 Tryd.underlying148 rfl rfl Tryd.underlying9 (by kernel_rfl) (by kernel_rfl)
  obtain rfl : a0 = x0 := by have := hv0.symm.trans hx0; simpa using this
  obtain rfl : a1 = y1 := by have := hv1.symm.trans hy1; simpa using this
  obtain rfl : x2 = y2 := by have := hx2.symm.trans hy2; simpa using this
  have e0 := World.var?_cell hg0 hv0 0
  have e1 := World.var?_cell hg1 hv1 0
  have e2 := World.var?_cell hg2 hx2 0
  exact ⟨a0, a1, x2, ⟨e0, e1, e2, hne, hn02, hn12, ⟨_, _, hb0⟩, ⟨_, _, hb1⟩, ⟨_, _, hb2⟩, World.block_lt_of_cell? _ _ e1, World.block_lt_of_cell? _ _ hc0, World.block_lt_of_cell? _ _ hc1, World.block_lt_of_cell? _ _ hcy⟩⟩

set_option maxHeartbeats 800000 in
theorem tideCode_nil (a0 a1 a2 : Addr) (B : Nat) (w : World) (h : Sent w B a0 a1 a2) :
    Calls Tryd.prog 33 #[.nilIface] w fun e w' => e = .returned (.int .i64 0) ∧ w = w' := by
  have g0 := h.v0
  have g1 := h.v1
  have g2 := h.v2
  clear h
  go_enter Tryd.func33, Tryd.ntmps33
  go_wp2_with fail
  refine (is_nil a0 _).mono ?_
  rintro e1 W1 ⟨rfl, rfl⟩
  go_wp2_with fail
  refine (is_nil a1 _).mono ?_
  rintro e2 W2 ⟨rfl, rfl⟩
  go_wp2_with fail
  refine (is_nil a2 _).mono ?_
  rintro e3 W3 ⟨rfl, rfl⟩
  go_wp2
  go_ret
  exact ⟨rfl, rfl⟩

set_option maxHeartbeats 800000 in
theorem tideCode_0 (a0 a1 a2 : Addr) (B : Nat) (w : World) (h : Sent w B a0 a1 a2) :
    Calls Tryd.prog 33 #[.iface 122 (.pointer (some a0))] w fun e w' => e = .returned (.int .i64 5) ∧ w = w' := by
  have g0 := h.v0
  clear h
  go_enter Tryd.func33, Tryd.ntmps33
  go_wp2_with fail
  refine (is_same a0 _).mono ?_
  rintro e1 W1 ⟨rfl, rfl⟩
  go_wp2
  go_ret
  exact ⟨rfl, rfl⟩

set_option maxHeartbeats 800000 in
theorem tideCode_1 (a0 a1 a2 : Addr) (B : Nat) (w : World) (h : Sent w B a0 a1 a2) :
    Calls Tryd.prog 33 #[.iface 122 (.pointer (some a1))] w fun e w' => e = .returned (.int .i64 6) ∧ w = w' := by
  have g0 := h.v0
  have g1 := h.v1
  have HN := Lib.hid (show a1 ≠ a0 from fun e => h.n01 e.symm)
  obtain ⟨c0, t0, r0⟩ := h.r0
  obtain ⟨c1, t1, r1⟩ := h.r1
  have R0 := Lib.hid r0
  have R1 := Lib.hid r1
  clear h r0 r1
  go_enter Tryd.func33, Tryd.ntmps33
  go_wp2_with fail
  refine (is_other a1 a0 c1 c0 t1 t0 _ HN.out R1.out R0.out).mono ?_
  rintro e1 W1 ⟨rfl, rfl⟩
  go_wp2_with fail
  refine (is_same a1 _).mono ?_
  rintro e2 W2 ⟨rfl, rfl⟩
  go_wp2
  go_ret
  exact ⟨rfl, rfl⟩

set_option maxHeartbeats 800000 in
theorem tideCode_2 (a0 a1 a2 : Addr) (B : Nat) (w : World) (h : Sent w B a0 a1 a2) :
    Calls Tryd.prog 33 #[.iface 122 (.pointer (some a2))] w fun e w' => e = .returned (.int .i64 3) ∧ w = w' := by
  have g0 := h.v0
  have g1 := h.v1
  have g2 := h.v2
  have HN := Lib.hid (show a2 ≠ a0 from fun e => h.n02 e.symm)
  have HM := Lib.hid (show a2 ≠ a1 from fun e => h.n12 e.symm)
  obtain ⟨c0, t0, r0⟩ := h.r0
  obtain ⟨c1, t1, r1⟩ := h.r1
  obtain ⟨c2, t2, r2⟩ := h.r2
  have R0 := Lib.hid r0
  have R1 := Lib.hid r1
  have R2 := Lib.hid r2
  clear h r0 r1 r2
  go_enter Tryd.func33, Tryd.ntmps33
  go_wp2_with fail
  refine (is_other a2 a0 c2 c0 t2 t0 _ HN.out R2.out R0.out).mono ?_
  rintro e1 W1 ⟨rfl, rfl⟩
  go_wp2_with fail
  refine (is_other a2 a1 c2 c1 t2 t1 _ HM.out R2.out R1.out).mono ?_
  rintro e2 W2 ⟨rfl, rfl⟩
  go_wp2_with fail
  refine (is_same a2 _).mono ?_
  rintro e3 W3 ⟨rfl, rfl⟩
  go_wp2
  go_ret
  exact ⟨rfl, rfl⟩

end Go.Proofs.YthpnkkbinffmkaaDoor
