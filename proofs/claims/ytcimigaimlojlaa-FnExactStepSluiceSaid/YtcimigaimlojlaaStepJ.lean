/- Sluices: an hour, of the program: turn, step. -/
import Derived.Test.YtcimigaimlojlaaStepI
namespace Go.Proofs.Ytcimigaimlojlaa
open Go.RowKit

theorem gate_eta {g : RGate} {a : Bool} {b c : Int} (h0 : g.f0 = a) (h1 : g.f1 = b) (h2 : g.f2 = c) : g = ⟨a, b, c⟩ := by
  cases g; simp at *; exact ⟨h0, h1, h2⟩
def mvN (ord i o : Int) (g : RGate) : Int := g.f2 + (if opN ord i o g.f0 = g.f0 then 0 else 1)

set_option maxHeartbeats 1600000 in
theorem turn_c2_f (b : Nat) (wd sl g1 g2 i o ord : Int) (w : World) (hk : KeptAt w b wd sl ⟨false, g1, g2⟩) (hm : 0 ≤ g2 ∧ g2 ≤ 1000000) (h1 : ord = 2) :
    Calls Try.prog 72 #[.pointer (some ⟨b, 0, none⟩), .int .i64 ord, .agg #[.int .i64 i, .int .i64 o]] w fun e w' => e = .returned (.tuple #[]) ∧ w.grownBy w' (some b) ∧ KeptAt w' b wd sl ⟨false, g1, g2⟩ := by
  have hlt := hk.lt
  have c2 := hk.c2
  have n2 := hk.n2
  have HK := Lib.hid hk
  clear hk
  simp only at c2
  subst h1
  go_enter_defers Try.func72, Try.ntmps72
  go_wp2
  refine leaves_cons (f := 81) (args := #[.pointer (some ⟨b, 0, none⟩), .bool false]) (by simp) (by simp [go_sem]) ?_
  refine (cm_same b wd sl ⟨false, g1, g2⟩ .returning _ ((HK.out.setOpen false).alloc _)).mono ?_
  rintro e u' w'' ⟨rfl, rfl, rfl⟩
  exact ⟨_, results_none rfl _ _ _, rfl, (gb_alloc (gb_set (World.grownBy.refl _ _)) _), ((HK.out.setOpen false).alloc _)⟩

set_option maxHeartbeats 1600000 in
theorem turn_c2_t (b : Nat) (wd sl g1 g2 i o ord : Int) (w : World) (hk : KeptAt w b wd sl ⟨true, g1, g2⟩) (hm : 0 ≤ g2 ∧ g2 ≤ 1000000) (h1 : ord = 2) :
    Calls Try.prog 72 #[.pointer (some ⟨b, 0, none⟩), .int .i64 ord, .agg #[.int .i64 i, .int .i64 o]] w fun e w' => e = .returned (.tuple #[]) ∧ w.grownBy w' (some b) ∧ KeptAt w' b wd sl ⟨false, g1, g2 + 1⟩ := by
  have hlt := hk.lt
  have c2 := hk.c2
  have n2 := hk.n2
  have HK := Lib.hid hk
  clear hk
  simp only at c2
  subst h1
  go_enter_defers Try.func72, Try.ntmps72
  go_wp2
  refine leaves_cons (f := 81) (args := #[.pointer (some ⟨b, 0, none⟩), .bool true]) (by simp) (by simp [go_sem]) ?_
  refine (cm_diff b wd sl ⟨false, g1, g2⟩ true rfl hm .returning _ ((HK.out.setOpen false).alloc _)).mono ?_
  rintro e u' w'' ⟨rfl, rfl, rfl⟩
  exact ⟨_, results_none rfl _ _ _, rfl, gb_set (gb_alloc (gb_set (World.grownBy.refl _ _)) _), ((HK.out.setOpen false).alloc _).setMoves _⟩

set_option maxHeartbeats 1600000 in
theorem turn_c0_f (b : Nat) (wd sl g1 g2 i o ord : Int) (w : World) (hk : KeptAt w b wd sl ⟨false, g1, g2⟩) (hm : 0 ≤ g2 ∧ g2 ≤ 1000000) (h1 : ord = 0) (h2 : i ≤ o) :
    Calls Try.prog 72 #[.pointer (some ⟨b, 0, none⟩), .int .i64 ord, .agg #[.int .i64 i, .int .i64 o]] w fun e w' => e = .returned (.tuple #[]) ∧ w.grownBy w' (some b) ∧ KeptAt w' b wd sl ⟨false, g1, g2⟩ := by
  have hlt := hk.lt
  have c2 := hk.c2
  have n2 := hk.n2
  have HK := Lib.hid hk
  clear hk
  simp only at c2
  subst h1
  have HR := Lib.hid (show false = decide (o < i) by simp; omega)
  go_enter_defers Try.func72, Try.ntmps72
  go_wp2_with (go_at_call 71; refine (runs_t _ _ _ false HR.out).mono ?_; rintro e1 w1 ⟨rfl, rfl⟩)
  refine leaves_cons (f := 81) (args := #[.pointer (some ⟨b, 0, none⟩), .bool false]) (by simp) (by simp [go_sem]) ?_
  refine (cm_same b wd sl ⟨false, g1, g2⟩ .returning _ (((HK.out.setOpen false).alloc _).alloc _)).mono ?_
  rintro e u' w'' ⟨rfl, rfl, rfl⟩
  exact ⟨_, results_none rfl _ _ _, rfl, (gb_alloc (gb_alloc (gb_set (World.grownBy.refl _ _)) _) _), (((HK.out.setOpen false).alloc _).alloc _)⟩

set_option maxHeartbeats 1600000 in
theorem turn_c0_t (b : Nat) (wd sl g1 g2 i o ord : Int) (w : World) (hk : KeptAt w b wd sl ⟨true, g1, g2⟩) (hm : 0 ≤ g2 ∧ g2 ≤ 1000000) (h1 : ord = 0) (h2 : i ≤ o) :
    Calls Try.prog 72 #[.pointer (some ⟨b, 0, none⟩), .int .i64 ord, .agg #[.int .i64 i, .int .i64 o]] w fun e w' => e = .returned (.tuple #[]) ∧ w.grownBy w' (some b) ∧ KeptAt w' b wd sl ⟨false, g1, g2 + 1⟩ := by
  have hlt := hk.lt
  have c2 := hk.c2
  have n2 := hk.n2
  have HK := Lib.hid hk
  clear hk
  simp only at c2
  subst h1
  have HR := Lib.hid (show false = decide (o < i) by simp; omega)
  go_enter_defers Try.func72, Try.ntmps72
  go_wp2_with (go_at_call 71; refine (runs_t _ _ _ false HR.out).mono ?_; rintro e1 w1 ⟨rfl, rfl⟩)
  refine leaves_cons (f := 81) (args := #[.pointer (some ⟨b, 0, none⟩), .bool true]) (by simp) (by simp [go_sem]) ?_
  refine (cm_diff b wd sl ⟨false, g1, g2⟩ true rfl hm .returning _ (((HK.out.setOpen false).alloc _).alloc _)).mono ?_
  rintro e u' w'' ⟨rfl, rfl, rfl⟩
  exact ⟨_, results_none rfl _ _ _, rfl, gb_set (gb_alloc (gb_alloc (gb_set (World.grownBy.refl _ _)) _) _), (((HK.out.setOpen false).alloc _).alloc _).setMoves _⟩

set_option maxHeartbeats 1600000 in
theorem turn_k_f (b : Nat) (wd sl g1 g2 i o ord : Int) (w : World) (hk : KeptAt w b wd sl ⟨false, g1, g2⟩) (hm : 0 ≤ g2 ∧ g2 ≤ 1000000) (h1 : ord = 0) (h2 : o < i) :
    Calls Try.prog 72 #[.pointer (some ⟨b, 0, none⟩), .int .i64 ord, .agg #[.int .i64 i, .int .i64 o]] w fun e w' => e = .returned (.tuple #[]) ∧ w.grownBy w' (some b) ∧ KeptAt w' b wd sl ⟨false, g1, g2⟩ := by
  have hlt := hk.lt
  have c2 := hk.c2
  have n2 := hk.n2
  have HK := Lib.hid hk
  clear hk
  simp only at c2
  subst h1
  have HR := Lib.hid (show true = decide (o < i) by simp; omega)
  go_enter_defers Try.func72, Try.ntmps72
  go_wp2_with (go_at_call 71; refine (runs_t _ _ _ true HR.out).mono ?_; rintro e1 w1 ⟨rfl, rfl⟩)
  refine leaves_cons (f := 81) (args := #[.pointer (some ⟨b, 0, none⟩), .bool false]) (by simp) (by simp [go_sem]) ?_
  refine (cm_same b wd sl ⟨false, g1, g2⟩ .returning _ ((HK.out.alloc _).alloc _)).mono ?_
  rintro e u' w'' ⟨rfl, rfl, rfl⟩
  exact ⟨_, results_none rfl _ _ _, rfl, (gb_alloc (gb_alloc (World.grownBy.refl _ _) _) _), ((HK.out.alloc _).alloc _)⟩

set_option maxHeartbeats 1600000 in
theorem turn_k_t (b : Nat) (wd sl g1 g2 i o ord : Int) (w : World) (hk : KeptAt w b wd sl ⟨true, g1, g2⟩) (hm : 0 ≤ g2 ∧ g2 ≤ 1000000) (h1 : ord = 0) (h2 : o < i) :
    Calls Try.prog 72 #[.pointer (some ⟨b, 0, none⟩), .int .i64 ord, .agg #[.int .i64 i, .int .i64 o]] w fun e w' => e = .returned (.tuple #[]) ∧ w.grownBy w' (some b) ∧ KeptAt w' b wd sl ⟨true, g1, g2⟩ := by
  have hlt := hk.lt
  have c2 := hk.c2
  have n2 := hk.n2
  have HK := Lib.hid hk
  clear hk
  simp only at c2
  subst h1
  have HR := Lib.hid (show true = decide (o < i) by simp; omega)
  go_enter_defers Try.func72, Try.ntmps72
  go_wp2_with (go_at_call 71; refine (runs_t _ _ _ true HR.out).mono ?_; rintro e1 w1 ⟨rfl, rfl⟩)
  refine leaves_cons (f := 81) (args := #[.pointer (some ⟨b, 0, none⟩), .bool true]) (by simp) (by simp [go_sem]) ?_
  refine (cm_same b wd sl ⟨true, g1, g2⟩ .returning _ ((HK.out.alloc _).alloc _)).mono ?_
  rintro e u' w'' ⟨rfl, rfl, rfl⟩
  exact ⟨_, results_none rfl _ _ _, rfl, (gb_alloc (gb_alloc (World.grownBy.refl _ _) _) _), ((HK.out.alloc _).alloc _)⟩

set_option maxHeartbeats 1600000 in
theorem turn_o_f (b : Nat) (wd sl g1 g2 i o ord : Int) (w : World) (hk : KeptAt w b wd sl ⟨false, g1, g2⟩) (hm : 0 ≤ g2 ∧ g2 ≤ 1000000) (h1 : ord = 1) (h2 : o < i) :
    Calls Try.prog 72 #[.pointer (some ⟨b, 0, none⟩), .int .i64 ord, .agg #[.int .i64 i, .int .i64 o]] w fun e w' => e = .returned (.tuple #[]) ∧ w.grownBy w' (some b) ∧ KeptAt w' b wd sl ⟨true, g1, g2 + 1⟩ := by
  have hlt := hk.lt
  have c2 := hk.c2
  have n2 := hk.n2
  have HK := Lib.hid hk
  clear hk
  simp only at c2
  subst h1
  have HR := Lib.hid (show true = decide (o < i) by simp; omega)
  go_enter_defers Try.func72, Try.ntmps72
  go_wp2_with (go_at_call 71; refine (runs_t _ _ _ true HR.out).mono ?_; rintro e1 w1 ⟨rfl, rfl⟩)
  refine leaves_cons (f := 81) (args := #[.pointer (some ⟨b, 0, none⟩), .bool false]) (by simp) (by simp [go_sem]) ?_
  refine (cm_diff b wd sl ⟨true, g1, g2⟩ false rfl hm .returning _ (((HK.out.setOpen true).alloc _).alloc _)).mono ?_
  rintro e u' w'' ⟨rfl, rfl, rfl⟩
  exact ⟨_, results_none rfl _ _ _, rfl, gb_set (gb_alloc (gb_alloc (gb_set (World.grownBy.refl _ _)) _) _), (((HK.out.setOpen true).alloc _).alloc _).setMoves _⟩

set_option maxHeartbeats 1600000 in
theorem turn_o_t (b : Nat) (wd sl g1 g2 i o ord : Int) (w : World) (hk : KeptAt w b wd sl ⟨true, g1, g2⟩) (hm : 0 ≤ g2 ∧ g2 ≤ 1000000) (h1 : ord = 1) (h2 : o < i) :
    Calls Try.prog 72 #[.pointer (some ⟨b, 0, none⟩), .int .i64 ord, .agg #[.int .i64 i, .int .i64 o]] w fun e w' => e = .returned (.tuple #[]) ∧ w.grownBy w' (some b) ∧ KeptAt w' b wd sl ⟨true, g1, g2⟩ := by
  have hlt := hk.lt
  have c2 := hk.c2
  have n2 := hk.n2
  have HK := Lib.hid hk
  clear hk
  simp only at c2
  subst h1
  have HR := Lib.hid (show true = decide (o < i) by simp; omega)
  go_enter_defers Try.func72, Try.ntmps72
  go_wp2_with (go_at_call 71; refine (runs_t _ _ _ true HR.out).mono ?_; rintro e1 w1 ⟨rfl, rfl⟩)
  refine leaves_cons (f := 81) (args := #[.pointer (some ⟨b, 0, none⟩), .bool true]) (by simp) (by simp [go_sem]) ?_
  refine (cm_same b wd sl ⟨true, g1, g2⟩ .returning _ (((HK.out.setOpen true).alloc _).alloc _)).mono ?_
  rintro e u' w'' ⟨rfl, rfl, rfl⟩
  exact ⟨_, results_none rfl _ _ _, rfl, (gb_alloc (gb_alloc (gb_set (World.grownBy.refl _ _)) _) _), (((HK.out.setOpen true).alloc _).alloc _)⟩

theorem turn_t (b : Nat) (wd sl i o ord : Int) (g : RGate) (w : World) (hk : KeptAt w b wd sl g) (hm : 0 ≤ g.f2 ∧ g.f2 ≤ 1000000) (hord : 0 ≤ ord ∧ ord ≤ 2) (hnf : ¬ (ord = 1 ∧ i ≤ o)) :
    Calls Try.prog 72 #[.pointer (some ⟨b, 0, none⟩), .int .i64 ord, .agg #[.int .i64 i, .int .i64 o]] w fun e w' => e = .returned (.tuple #[]) ∧ w.grownBy w' (some b) ∧ KeptAt w' b wd sl ⟨opN ord i o g.f0, g.f1, mvN ord i o g⟩ := by
  obtain ⟨g0, g1, g2⟩ := g
  by_cases h2 : ord = 2
  · have e : opN ord i o g0 = false := by unfold opN; rw [if_pos (.inl h2)]
    cases g0
    · simp only [mvN, e, if_true, Int.add_zero]; exact turn_c2_f b wd sl g1 g2 i o ord w hk hm h2
    · simp only [mvN, e]; exact turn_c2_t b wd sl g1 g2 i o ord w hk hm h2
  · by_cases h3 : i ≤ o
    · have h0 : ord = 0 := by omega
      have e : opN ord i o g0 = false := by unfold opN; rw [if_pos (.inr h3)]
      cases g0
      · simp only [mvN, e, if_true, Int.add_zero]; exact turn_c0_f b wd sl g1 g2 i o ord w hk hm h0 h3
      · simp only [mvN, e]; exact turn_c0_t b wd sl g1 g2 i o ord w hk hm h0 h3
    · by_cases h1 : ord = 1
      · have e : opN ord i o g0 = true := by unfold opN; rw [if_neg (by omega), if_pos h1]
        cases g0
        · simp only [mvN, e]; exact turn_o_f b wd sl g1 g2 i o ord w hk hm h1 (by omega)
        · simp only [mvN, e, if_true, Int.add_zero]; exact turn_o_t b wd sl g1 g2 i o ord w hk hm h1 (by omega)
      · have e : opN ord i o g0 = g0 := by unfold opN; rw [if_neg (by omega), if_neg h1]
        have h0 : ord = 0 := by omega
        simp only [mvN, e, if_true, Int.add_zero]
        cases g0
        · exact turn_k_f b wd sl g1 g2 i o ord w hk hm h0 (by omega)
        · exact turn_k_t b wd sl g1 g2 i o ord w hk hm h0 (by omega)

set_option maxHeartbeats 1600000 in
theorem step_flood (b : Nat) (i o : Int) (w : World) (h : i ≤ o) :
    Calls Try.prog 51 #[.pointer (some ⟨b, 0, none⟩), .int .i64 1, .agg #[.int .i64 i, .int .i64 o]] w fun e w' => e = .returned (.int .i64 10) ∧ w.grownBy w' (some b) := by
  have HR := Lib.hid (show false = decide (o < i) by simp; omega)
  clear h
  go_enter Try.func51, Try.ntmps51
  go_wp2_with (go_at_call 71; refine (runs_t _ _ _ false HR.out).mono ?_; rintro e1 w1 ⟨rfl, rfl⟩)
  go_ret
  exact ⟨rfl, gb_alloc (gb_alloc (World.grownBy.refl _ _) _) _⟩

set_option maxRecDepth 100000 in
set_option maxHeartbeats 3200000 in
theorem stepN_f (b : Nat) (wd sl i o ord : Int) (g : RGate) (w : World) (hk : KeptAt w b wd sl g) (hs : slOk wd sl) (hg : gtOk g.f1 g.f2) (hi : slv i) (ho : slv o) (hord : 0 ≤ ord ∧ ord ≤ 2) (h1 : ord ≠ 1) (hop : opN ord i o g.f0 = false) (q : Int) (hq : q = flN wd sl i o) (v : Bool) (hv : v = decide (gtOk g.f1 (mvN ord i o g))) :
    Calls Try.prog 51 #[.pointer (some ⟨b, 0, none⟩), .int .i64 ord, .agg #[.int .i64 i, .int .i64 o]] w fun e w' => e = .returned (.int .i64 (if v then 0 else 5)) ∧ w.grownBy w' (some b) ∧ KeptAt w' b wd sl ⟨false, g.f1, mvN ord i o g⟩ := by
  have HS := Lib.hid hs
  have HI := Lib.hid hi
  have HO := Lib.hid ho
  have HQ := Lib.hid hq
  have hqb := flN_bd hs hi ho
  rw [← hq] at hqb
  obtain ⟨qb1, qb2⟩ := hqb
  obtain ⟨⟨ga, gb⟩, hm⟩ := hg
  have fp := IntWalk.i64_in (g.f1 + q) (by omega)
  have HV := Lib.hid hv
  have hlt := hk.lt
  have HT := Lib.hid (fun W hW => turn_t b wd sl i o ord g W hW hm hord (fun h => h1 h.1))
  have HK := Lib.hid hk
  rw [hop] at HT
  generalize mvN ord i o g = m at *
  obtain ⟨g0, g1, g2⟩ := g
  simp only at *
  clear hs hi ho hq hv hk hop hord
  go_enter Try.func51, Try.ntmps51
  go_wp2_with (first | (go_at_call 72; refine (HT.out _ (HK.out.alloc _)).mono ?_; rintro et Wt ⟨rfl, gt, kt⟩; have st := gt.size; simp at st; have y0 : Wt.cell? ⟨w.heap.size, 0, none⟩ = some (.int .i64 i) := (gb_cell gt (by first | omega | (simp; done) | (simp; omega)) (by omega)).trans (by first | (simp; done) | go_simp); have y1 : Wt.cell? ⟨w.heap.size, 1, none⟩ = some (.int .i64 o) := (gb_cell gt (by first | omega | (simp; done) | (simp; omega)) (by omega)).trans (by first | (simp; done) | go_simp); have t0 := kt.c0; have t1 := kt.c1; have t2 := kt.c2; have t3 := kt.c3; have t4 := kt.c4; have l3 := kt.n3; have kl := kt.lt; have GT := Lib.hid (show w.grownBy Wt (some b) from (gb_alloc (World.grownBy.refl _ _) _).trans gt); have KT := Lib.hid kt; clear gt kt; simp only at t2 t3 t4))
  cases v
  all_goals
    go_wp2_with (go_at_call 49; refine (gtI_any _ _ _ _ _ HV.out).mono ?_; rintro eg Wg ⟨rfl, bg⟩)
    go_ret
    exact ⟨rfl, gb_below' GT.out bg, KT.out.below bg kl⟩

set_option maxRecDepth 100000 in
set_option maxHeartbeats 3200000 in
theorem stepN_t (b : Nat) (wd sl i o ord : Int) (g : RGate) (w : World) (hk : KeptAt w b wd sl g) (hs : slOk wd sl) (hg : gtOk g.f1 g.f2) (hi : slv i) (ho : slv o) (hord : 0 ≤ ord ∧ ord ≤ 2) (h1 : ord ≠ 1) (hop : opN ord i o g.f0 = true) (q : Int) (hq : q = flN wd sl i o) (v : Bool) (hv : v = decide (gtOk (g.f1 + q) (mvN ord i o g))) :
    Calls Try.prog 51 #[.pointer (some ⟨b, 0, none⟩), .int .i64 ord, .agg #[.int .i64 i, .int .i64 o]] w fun e w' => e = .returned (.int .i64 (if v then 0 else 5)) ∧ w.grownBy w' (some b) ∧ KeptAt w' b wd sl ⟨true, (g.f1 + q), mvN ord i o g⟩ := by
  have HS := Lib.hid hs
  have HI := Lib.hid hi
  have HO := Lib.hid ho
  have HQ := Lib.hid hq
  have hqb := flN_bd hs hi ho
  rw [← hq] at hqb
  obtain ⟨qb1, qb2⟩ := hqb
  obtain ⟨⟨ga, gb⟩, hm⟩ := hg
  have fp := IntWalk.i64_in (g.f1 + q) (by omega)
  have HV := Lib.hid hv
  have hlt := hk.lt
  have HT := Lib.hid (fun W hW => turn_t b wd sl i o ord g W hW hm hord (fun h => h1 h.1))
  have HK := Lib.hid hk
  rw [hop] at HT
  generalize mvN ord i o g = m at *
  obtain ⟨g0, g1, g2⟩ := g
  simp only at *
  clear hs hi ho hq hv hk hop hord
  go_enter Try.func51, Try.ntmps51
  go_wp2_with (first | (go_at_call 72; refine (HT.out _ (HK.out.alloc _)).mono ?_; rintro et Wt ⟨rfl, gt, kt⟩; have st := gt.size; simp at st; have y0 : Wt.cell? ⟨w.heap.size, 0, none⟩ = some (.int .i64 i) := (gb_cell gt (by first | omega | (simp; done) | (simp; omega)) (by omega)).trans (by first | (simp; done) | go_simp); have y1 : Wt.cell? ⟨w.heap.size, 1, none⟩ = some (.int .i64 o) := (gb_cell gt (by first | omega | (simp; done) | (simp; omega)) (by omega)).trans (by first | (simp; done) | go_simp); have t0 := kt.c0; have t1 := kt.c1; have t2 := kt.c2; have t3 := kt.c3; have t4 := kt.c4; have l3 := kt.n3; have kl := kt.lt; have GT := Lib.hid (show w.grownBy Wt (some b) from (gb_alloc (World.grownBy.refl _ _) _).trans gt); have KT := Lib.hid kt; clear gt kt; simp only at t2 t3 t4))
  refine wp_region_held_drew (S := fun w' => w'.cell? ⟨b, 0, none⟩ = some (.int .i64 wd) ∧ w'.cell? ⟨b, 1, none⟩ = some (.int .i64 sl) ∧ w'.cell? ⟨w.heap.size, 0, none⟩ = some (.int .i64 i) ∧ w'.cell? ⟨w.heap.size, 1, none⟩ = some (.int .i64 o)) (by kernel_rfl) ⟨by simpa using t0, by simpa using t1, by simpa using y0, by simpa using y1⟩ (fun hHeld => ?_)
  ((refine wpAnyH_take (i := 0) (oi := ⟨some 23, _, _, _, _, _⟩) (v := ?_) rfl (by kernel_rfl) (by kernel_rfl) (by kernel_rfl) (fun _ _ _ h => h) (Or.inl ⟨by rfl, ?_⟩) (by assumption) ?_; rotate_left 1; (focus (intro w hSw; (try dsimp only at hSw); go_simp <;> try (first | (with_reducible rfl) | (rw [if_neg (by omega)])))); try simp only [Act.put, List.setIfInBounds_toArray, List.set_cons_zero, List.set_cons_succ]); (refine wpAnyH_take (i := 1) (oi := ⟨some 24, _, _, _, _, _⟩) (v := ?_) rfl (by kernel_rfl) (by kernel_rfl) (by kernel_rfl) (fun _ _ _ h => h) (Or.inl ⟨by rfl, ?_⟩) (by assumption) ?_; rotate_left 1; (focus (intro w hSw; (try dsimp only at hSw); go_simp <;> try (first | (with_reducible rfl) | (rw [if_neg (by omega)])))); try simp only [Act.put, List.setIfInBounds_toArray, List.set_cons_zero, List.set_cons_succ]); (refine wpAnyH_take (i := 2) (oi := ⟨some 25, _, _, _, _, _⟩) (v := ?_) rfl (by kernel_rfl) (by kernel_rfl) (by kernel_rfl) (fun _ _ _ h => h) (Or.inl ⟨by rfl, ?_⟩) (by assumption) ?_; rotate_left 1; (focus (intro w hSw; (try dsimp only at hSw); go_simp <;> try (first | (with_reducible rfl) | (rw [if_neg (by omega)])))); try simp only [Act.put, List.setIfInBounds_toArray, List.set_cons_zero, List.set_cons_succ]); (refine wpAnyH_take (i := 3) (oi := ⟨some 26, _, _, _, _, _⟩) (v := ?_) rfl (by kernel_rfl) (by kernel_rfl) (by kernel_rfl) (fun _ _ _ h => h) (Or.inl ⟨by rfl, ?_⟩) (by assumption) ?_; rotate_left 1; (focus (intro w hSw; (try dsimp only at hSw); go_simp <;> try (first | (with_reducible rfl) | (rw [if_neg (by omega)])))); try simp only [Act.put, List.setIfInBounds_toArray, List.set_cons_zero, List.set_cons_succ]); (refine wpAnyH_take (i := 5) (oi := ⟨some 28, _, _, _, _, _⟩) (v := ?_) rfl (by kernel_rfl) (by kernel_rfl) (by kernel_rfl) (fun _ _ _ h => h) (Or.inl ⟨by rfl, ?_⟩) (by assumption) ?_; rotate_left 1; (focus (intro w hSw; (try dsimp only at hSw); go_simp <;> try (first | (with_reducible rfl) | (rw [if_neg (by omega)])))); try simp only [Act.put, List.setIfInBounds_toArray, List.set_cons_zero, List.set_cons_succ]); (refine wpAnyH_take (i := 6) (oi := ⟨some 29, _, _, _, _, _⟩) (v := ?_) rfl (by kernel_rfl) (by kernel_rfl) (by kernel_rfl) (fun _ _ _ h => h) (Or.inl ⟨by rfl, ?_⟩) (by assumption) ?_; rotate_left 1; (focus (intro w hSw; (try dsimp only at hSw); go_simp <;> try (first | (with_reducible rfl) | (rw [if_neg (by omega)])))); try simp only [Act.put, List.setIfInBounds_toArray, List.set_cons_zero, List.set_cons_succ]); (refine wpAnyH_take (i := 7) (oi := ⟨some 30, _, _, _, _, _⟩) (v := ?_) rfl (by kernel_rfl) (by kernel_rfl) (by kernel_rfl) (fun _ _ _ h => h) (Or.inl ⟨by rfl, ?_⟩) (by assumption) ?_; rotate_left 1; (focus (intro w hSw; (try dsimp only at hSw); go_simp <;> try (first | (with_reducible rfl) | (rw [if_neg (by omega)])))); try simp only [Act.put, List.setIfInBounds_toArray, List.set_cons_zero, List.set_cons_succ]); (refine wpAnyH_take (i := 8) (oi := ⟨some 31, _, _, _, _, _⟩) (v := ?_) rfl (by kernel_rfl) (by kernel_rfl) (by kernel_rfl) (fun _ _ _ h => h) (Or.inl ⟨by rfl, ?_⟩) (by assumption) ?_; rotate_left 1; (focus (intro w hSw; (try dsimp only at hSw); go_simp <;> try (first | (with_reducible rfl) | (rw [if_neg (by omega)])))); try simp only [Act.put, List.setIfInBounds_toArray, List.set_cons_zero, List.set_cons_succ]); (refine wpAnyH_take (i := 9) (oi := ⟨some 32, _, _, _, _, _⟩) (v := ?_) rfl (by kernel_rfl) (by kernel_rfl) (by kernel_rfl) (fun _ _ _ h => h) (Or.inl ⟨by rfl, ?_⟩) (by assumption) ?_; rotate_left 1; (focus (intro w hSw; (try dsimp only at hSw); go_simp <;> try (first | (with_reducible rfl) | (rw [if_neg (by omega)])))); try simp only [Act.put, List.setIfInBounds_toArray, List.set_cons_zero, List.set_cons_succ]))
  refine wpAnyH_ready (rs := [4, 10]) (by kernel_rfl) (by simp) ?_
  refine AllReadyH.cons (o := ⟨some 27, _, _, _, _, _⟩) rfl (fun K hK => ?_) (AllReadyH.cons (o := ⟨some 33, _, _, _, _, _⟩) rfl (fun K hK => ?_) AllReadyH.nil)
  · go_simp
    (refine hK.out _ _ ?_ (fun hHeld => ?_))
    · exact hHeld
    refine wpAnyH_ready (rs := [10]) (by kernel_rfl) (by simp) ?_
    refine AllReadyH.cons (o := ⟨some 33, _, _, _, _, _⟩) rfl (fun K hK => ?_) AllReadyH.nil
    go_simp
    refine (flowI_t _ _ _ _ _ HS.out HI.out HO.out q HQ.out).mono ?_
    rintro e1 W1 ⟨rfl, b1d⟩
    have b1 : Below Wt.heap.size Wt W1 := ⟨b1d.os, b1d.tape, b1d.output, b1d.size, b1d.block⟩
    clear b1d
    have s1 : w.heap.size < W1.heap.size := (by have := b1.size; (try simp at this); omega)
    have kb : b < W1.heap.size := (by omega)
    have K1 := Lib.hid (KT.out.below b1 kl)
    have G1 := Lib.hid (gb_below' GT.out b1)
    have u0 := K1.out.c0
    have u1 := K1.out.c1
    have u2 := K1.out.c2
    have u3 := K1.out.c3
    have u4 := K1.out.c4
    have uf := K1.out.n3
    simp only at u2 u3 u4
    have z0 := (b1.cell (p := ⟨w.heap.size, 0, none⟩) (show w.heap.size < _ by omega)).trans y0
    have z1 := (b1.cell (p := ⟨w.heap.size, 1, none⟩) (show w.heap.size < _ by omega)).trans y1
    clear b1 hHeld
    (refine hK.out _ _ ?_ (fun hHeld => ?_))
    · exact ⟨u0, u1, z0, z1⟩
    ((refine wpAnyH_take (i := 11) (oi := ⟨some 34, _, _, _, _, _⟩) (v := ?_) rfl (by kernel_rfl) (by kernel_rfl) (by kernel_rfl) (fun _ _ _ h => h) (Or.inl ⟨by rfl, ?_⟩) (by assumption) ?_; rotate_left 1; (focus (intro w hSw; (try dsimp only at hSw); go_simp <;> try (first | (with_reducible rfl) | (rw [if_neg (by omega)])))); try simp only [Act.put, List.setIfInBounds_toArray, List.set_cons_zero, List.set_cons_succ]); (refine wpAnyH_take (i := 12) (oi := ⟨some 35, _, _, _, _, _⟩) (v := ?_) rfl (by kernel_rfl) (by kernel_rfl) (by kernel_rfl) (fun _ _ _ h => h) (Or.inl ⟨by rfl, ?_⟩) (by assumption) ?_; rotate_left 1; (focus (intro w hSw; (try dsimp only at hSw); go_simp <;> try (first | (with_reducible rfl) | (rw [if_neg (by omega)])))); try simp only [Act.put, List.setIfInBounds_toArray, List.set_cons_zero, List.set_cons_succ]); (refine wpAnyH_take (i := 13) (oi := ⟨some 36, _, _, _, _, _⟩) (v := ?_) rfl (by kernel_rfl) (by kernel_rfl) (by kernel_rfl) (fun _ _ _ h => h) (Or.inl ⟨by rfl, ?_⟩) (by assumption) ?_; rotate_left 1; (focus (intro w hSw; (try dsimp only at hSw); go_simp <;> try (first | (with_reducible rfl) | (rw [if_neg (by omega)])))); try simp only [Act.put, List.setIfInBounds_toArray, List.set_cons_zero, List.set_cons_succ]); (refine wpAnyH_take (i := 14) (oi := ⟨some 37, _, _, _, _, _⟩) (v := ?_) rfl (by kernel_rfl) (by kernel_rfl) (by kernel_rfl) (fun _ _ _ h => h) (Or.inl ⟨by rfl, ?_⟩) (by assumption) ?_; rotate_left 1; (focus (intro w hSw; (try dsimp only at hSw); go_simp <;> try (first | (with_reducible rfl) | (rw [if_neg (by omega)])))); try simp only [Act.put, List.setIfInBounds_toArray, List.set_cons_zero, List.set_cons_succ]))
    refine wpAnyH_ready (rs := [15]) (by kernel_rfl) (by simp) ?_
    refine AllReadyH.cons (o := ⟨none, _, _, _, _, _⟩) rfl (fun K hK => ?_) AllReadyH.nil
    go_simp
    (refine hK.out _ _ ?_ (fun hHeld => ?_))
    · exact ⟨by first | (simp; done) | go_simp, by first | (simp; done) | go_simp, by first | (simp; done) | go_simp, by first | (simp; done) | go_simp⟩
    refine wpAnyH_done (by kernel_rfl) ?_ _
    have K2 := Lib.hid (K1.out.setPassed (g1 + q))
    have G2 := Lib.hid (gb_set (o := 3) (v := .int .i64 (g1 + q)) G1.out)
    have j2 := K2.out.c2
    have j3 := K2.out.c3
    have j4 := K2.out.c4
    have jl := K2.out.lt
    simp only at j2 j3 j4
    generalize W1.setCell ⟨b, 3, none⟩ (.int .i64 (g1 + q)) = W2 at *
    cases v
    all_goals
      go_wp2_with (go_at_call 49; refine (gtI_any _ _ _ _ _ HV.out).mono ?_; rintro eg Wg ⟨rfl, bg⟩)
      go_ret
      exact ⟨rfl, gb_below' G2.out bg, K2.out.below bg jl⟩
  · go_simp
    refine (flowI_t _ _ _ _ _ HS.out HI.out HO.out q HQ.out).mono ?_
    rintro e1 W1 ⟨rfl, b1d⟩
    have b1 : Below Wt.heap.size Wt W1 := ⟨b1d.os, b1d.tape, b1d.output, b1d.size, b1d.block⟩
    clear b1d
    have s1 : w.heap.size < W1.heap.size := (by have := b1.size; (try simp at this); omega)
    have kb : b < W1.heap.size := (by omega)
    have K1 := Lib.hid (KT.out.below b1 kl)
    have G1 := Lib.hid (gb_below' GT.out b1)
    have u0 := K1.out.c0
    have u1 := K1.out.c1
    have u2 := K1.out.c2
    have u3 := K1.out.c3
    have u4 := K1.out.c4
    have uf := K1.out.n3
    simp only at u2 u3 u4
    have z0 := (b1.cell (p := ⟨w.heap.size, 0, none⟩) (show w.heap.size < _ by omega)).trans y0
    have z1 := (b1.cell (p := ⟨w.heap.size, 1, none⟩) (show w.heap.size < _ by omega)).trans y1
    clear b1 hHeld
    (refine hK.out _ _ ?_ (fun hHeld => ?_))
    · exact ⟨u0, u1, z0, z1⟩
    refine wpAnyH_ready (rs := [4]) (by kernel_rfl) (by simp) ?_
    refine AllReadyH.cons (o := ⟨some 27, _, _, _, _, _⟩) rfl (fun K hK => ?_) AllReadyH.nil
    go_simp
    (refine hK.out _ _ ?_ (fun hHeld => ?_))
    · exact hHeld
    ((refine wpAnyH_take (i := 11) (oi := ⟨some 34, _, _, _, _, _⟩) (v := ?_) rfl (by kernel_rfl) (by kernel_rfl) (by kernel_rfl) (fun _ _ _ h => h) (Or.inl ⟨by rfl, ?_⟩) (by assumption) ?_; rotate_left 1; (focus (intro w hSw; (try dsimp only at hSw); go_simp <;> try (first | (with_reducible rfl) | (rw [if_neg (by omega)])))); try simp only [Act.put, List.setIfInBounds_toArray, List.set_cons_zero, List.set_cons_succ]); (refine wpAnyH_take (i := 12) (oi := ⟨some 35, _, _, _, _, _⟩) (v := ?_) rfl (by kernel_rfl) (by kernel_rfl) (by kernel_rfl) (fun _ _ _ h => h) (Or.inl ⟨by rfl, ?_⟩) (by assumption) ?_; rotate_left 1; (focus (intro w hSw; (try dsimp only at hSw); go_simp <;> try (first | (with_reducible rfl) | (rw [if_neg (by omega)])))); try simp only [Act.put, List.setIfInBounds_toArray, List.set_cons_zero, List.set_cons_succ]); (refine wpAnyH_take (i := 13) (oi := ⟨some 36, _, _, _, _, _⟩) (v := ?_) rfl (by kernel_rfl) (by kernel_rfl) (by kernel_rfl) (fun _ _ _ h => h) (Or.inl ⟨by rfl, ?_⟩) (by assumption) ?_; rotate_left 1; (focus (intro w hSw; (try dsimp only at hSw); go_simp <;> try (first | (with_reducible rfl) | (rw [if_neg (by omega)])))); try simp only [Act.put, List.setIfInBounds_toArray, List.set_cons_zero, List.set_cons_succ]); (refine wpAnyH_take (i := 14) (oi := ⟨some 37, _, _, _, _, _⟩) (v := ?_) rfl (by kernel_rfl) (by kernel_rfl) (by kernel_rfl) (fun _ _ _ h => h) (Or.inl ⟨by rfl, ?_⟩) (by assumption) ?_; rotate_left 1; (focus (intro w hSw; (try dsimp only at hSw); go_simp <;> try (first | (with_reducible rfl) | (rw [if_neg (by omega)])))); try simp only [Act.put, List.setIfInBounds_toArray, List.set_cons_zero, List.set_cons_succ]))
    refine wpAnyH_ready (rs := [15]) (by kernel_rfl) (by simp) ?_
    refine AllReadyH.cons (o := ⟨none, _, _, _, _, _⟩) rfl (fun K hK => ?_) AllReadyH.nil
    go_simp
    (refine hK.out _ _ ?_ (fun hHeld => ?_))
    · exact ⟨by first | (simp; done) | go_simp, by first | (simp; done) | go_simp, by first | (simp; done) | go_simp, by first | (simp; done) | go_simp⟩
    refine wpAnyH_done (by kernel_rfl) ?_ _
    have K2 := Lib.hid (K1.out.setPassed (g1 + q))
    have G2 := Lib.hid (gb_set (o := 3) (v := .int .i64 (g1 + q)) G1.out)
    have j2 := K2.out.c2
    have j3 := K2.out.c3
    have j4 := K2.out.c4
    have jl := K2.out.lt
    simp only at j2 j3 j4
    generalize W1.setCell ⟨b, 3, none⟩ (.int .i64 (g1 + q)) = W2 at *
    cases v
    all_goals
      go_wp2_with (go_at_call 49; refine (gtI_any _ _ _ _ _ HV.out).mono ?_; rintro eg Wg ⟨rfl, bg⟩)
      go_ret
      exact ⟨rfl, gb_below' G2.out bg, K2.out.below bg jl⟩

set_option maxRecDepth 100000 in
set_option maxHeartbeats 3200000 in
theorem stepO_f (b : Nat) (wd sl i o ord : Int) (g : RGate) (w : World) (hk : KeptAt w b wd sl g) (hs : slOk wd sl) (hg : gtOk g.f1 g.f2) (hi : slv i) (ho : slv o) (hord : 0 ≤ ord ∧ ord ≤ 2) (h1 : ord = 1) (h2 : o < i) (hop : opN ord i o g.f0 = false) (q : Int) (hq : q = flN wd sl i o) (v : Bool) (hv : v = decide (gtOk g.f1 (mvN ord i o g))) :
    Calls Try.prog 51 #[.pointer (some ⟨b, 0, none⟩), .int .i64 ord, .agg #[.int .i64 i, .int .i64 o]] w fun e w' => e = .returned (.int .i64 (if v then 0 else 5)) ∧ w.grownBy w' (some b) ∧ KeptAt w' b wd sl ⟨false, g.f1, mvN ord i o g⟩ := by
  have HS := Lib.hid hs
  have HI := Lib.hid hi
  have HO := Lib.hid ho
  have HQ := Lib.hid hq
  have hqb := flN_bd hs hi ho
  rw [← hq] at hqb
  obtain ⟨qb1, qb2⟩ := hqb
  obtain ⟨⟨ga, gb⟩, hm⟩ := hg
  have fp := IntWalk.i64_in (g.f1 + q) (by omega)
  have HV := Lib.hid hv
  have hlt := hk.lt
  have HT := Lib.hid (fun W hW => turn_t b wd sl i o ord g W hW hm hord (by omega))
  have HK := Lib.hid hk
  rw [hop] at HT
  generalize mvN ord i o g = m at *
  obtain ⟨g0, g1, g2⟩ := g
  simp only at *
  clear hs hi ho hq hv hk hop hord
  have HR := Lib.hid (show true = decide (o < i) by simp; omega)
  subst h1
  go_enter Try.func51, Try.ntmps51
  go_wp2_with (first | (go_at_call 71; refine (runs_t _ _ _ true HR.out).mono ?_; rintro e1 w1 ⟨rfl, rfl⟩) | (go_at_call 72; refine (HT.out _ ((HK.out.alloc _).alloc _)).mono ?_; rintro et Wt ⟨rfl, gt, kt⟩; have st := gt.size; simp at st; have y0 : Wt.cell? ⟨w.heap.size, 0, none⟩ = some (.int .i64 i) := (gb_cell gt (by first | omega | (simp; done) | (simp; omega)) (by omega)).trans (by first | (simp; done) | go_simp); have y1 : Wt.cell? ⟨w.heap.size, 1, none⟩ = some (.int .i64 o) := (gb_cell gt (by first | omega | (simp; done) | (simp; omega)) (by omega)).trans (by first | (simp; done) | go_simp); have t0 := kt.c0; have t1 := kt.c1; have t2 := kt.c2; have t3 := kt.c3; have t4 := kt.c4; have l3 := kt.n3; have kl := kt.lt; have GT := Lib.hid (show w.grownBy Wt (some b) from (gb_alloc (gb_alloc (World.grownBy.refl _ _) _) _).trans gt); have KT := Lib.hid kt; clear gt kt; simp only at t2 t3 t4))
  cases v
  all_goals
    go_wp2_with (go_at_call 49; refine (gtI_any _ _ _ _ _ HV.out).mono ?_; rintro eg Wg ⟨rfl, bg⟩)
    go_ret
    exact ⟨rfl, gb_below' GT.out bg, KT.out.below bg kl⟩

set_option maxRecDepth 100000 in
set_option maxHeartbeats 3200000 in
theorem stepO_t (b : Nat) (wd sl i o ord : Int) (g : RGate) (w : World) (hk : KeptAt w b wd sl g) (hs : slOk wd sl) (hg : gtOk g.f1 g.f2) (hi : slv i) (ho : slv o) (hord : 0 ≤ ord ∧ ord ≤ 2) (h1 : ord = 1) (h2 : o < i) (hop : opN ord i o g.f0 = true) (q : Int) (hq : q = flN wd sl i o) (v : Bool) (hv : v = decide (gtOk (g.f1 + q) (mvN ord i o g))) :
    Calls Try.prog 51 #[.pointer (some ⟨b, 0, none⟩), .int .i64 ord, .agg #[.int .i64 i, .int .i64 o]] w fun e w' => e = .returned (.int .i64 (if v then 0 else 5)) ∧ w.grownBy w' (some b) ∧ KeptAt w' b wd sl ⟨true, (g.f1 + q), mvN ord i o g⟩ := by
  have HS := Lib.hid hs
  have HI := Lib.hid hi
  have HO := Lib.hid ho
  have HQ := Lib.hid hq
  have hqb := flN_bd hs hi ho
  rw [← hq] at hqb
  obtain ⟨qb1, qb2⟩ := hqb
  obtain ⟨⟨ga, gb⟩, hm⟩ := hg
  have fp := IntWalk.i64_in (g.f1 + q) (by omega)
  have HV := Lib.hid hv
  have hlt := hk.lt
  have HT := Lib.hid (fun W hW => turn_t b wd sl i o ord g W hW hm hord (by omega))
  have HK := Lib.hid hk
  rw [hop] at HT
  generalize mvN ord i o g = m at *
  obtain ⟨g0, g1, g2⟩ := g
  simp only at *
  clear hs hi ho hq hv hk hop hord
  have HR := Lib.hid (show true = decide (o < i) by simp; omega)
  subst h1
  go_enter Try.func51, Try.ntmps51
  go_wp2_with (first | (go_at_call 71; refine (runs_t _ _ _ true HR.out).mono ?_; rintro e1 w1 ⟨rfl, rfl⟩) | (go_at_call 72; refine (HT.out _ ((HK.out.alloc _).alloc _)).mono ?_; rintro et Wt ⟨rfl, gt, kt⟩; have st := gt.size; simp at st; have y0 : Wt.cell? ⟨w.heap.size, 0, none⟩ = some (.int .i64 i) := (gb_cell gt (by first | omega | (simp; done) | (simp; omega)) (by omega)).trans (by first | (simp; done) | go_simp); have y1 : Wt.cell? ⟨w.heap.size, 1, none⟩ = some (.int .i64 o) := (gb_cell gt (by first | omega | (simp; done) | (simp; omega)) (by omega)).trans (by first | (simp; done) | go_simp); have t0 := kt.c0; have t1 := kt.c1; have t2 := kt.c2; have t3 := kt.c3; have t4 := kt.c4; have l3 := kt.n3; have kl := kt.lt; have GT := Lib.hid (show w.grownBy Wt (some b) from (gb_alloc (gb_alloc (World.grownBy.refl _ _) _) _).trans gt); have KT := Lib.hid kt; clear gt kt; simp only at t2 t3 t4))
  refine wp_region_held_drew (S := fun w' => w'.cell? ⟨b, 0, none⟩ = some (.int .i64 wd) ∧ w'.cell? ⟨b, 1, none⟩ = some (.int .i64 sl) ∧ w'.cell? ⟨w.heap.size, 0, none⟩ = some (.int .i64 i) ∧ w'.cell? ⟨w.heap.size, 1, none⟩ = some (.int .i64 o)) (by kernel_rfl) ⟨by simpa using t0, by simpa using t1, by simpa using y0, by simpa using y1⟩ (fun hHeld => ?_)
  ((refine wpAnyH_take (i := 0) (oi := ⟨some 23, _, _, _, _, _⟩) (v := ?_) rfl (by kernel_rfl) (by kernel_rfl) (by kernel_rfl) (fun _ _ _ h => h) (Or.inl ⟨by rfl, ?_⟩) (by assumption) ?_; rotate_left 1; (focus (intro w hSw; (try dsimp only at hSw); go_simp <;> try (first | (with_reducible rfl) | (rw [if_neg (by omega)])))); try simp only [Act.put, List.setIfInBounds_toArray, List.set_cons_zero, List.set_cons_succ]); (refine wpAnyH_take (i := 1) (oi := ⟨some 24, _, _, _, _, _⟩) (v := ?_) rfl (by kernel_rfl) (by kernel_rfl) (by kernel_rfl) (fun _ _ _ h => h) (Or.inl ⟨by rfl, ?_⟩) (by assumption) ?_; rotate_left 1; (focus (intro w hSw; (try dsimp only at hSw); go_simp <;> try (first | (with_reducible rfl) | (rw [if_neg (by omega)])))); try simp only [Act.put, List.setIfInBounds_toArray, List.set_cons_zero, List.set_cons_succ]); (refine wpAnyH_take (i := 2) (oi := ⟨some 25, _, _, _, _, _⟩) (v := ?_) rfl (by kernel_rfl) (by kernel_rfl) (by kernel_rfl) (fun _ _ _ h => h) (Or.inl ⟨by rfl, ?_⟩) (by assumption) ?_; rotate_left 1; (focus (intro w hSw; (try dsimp only at hSw); go_simp <;> try (first | (with_reducible rfl) | (rw [if_neg (by omega)])))); try simp only [Act.put, List.setIfInBounds_toArray, List.set_cons_zero, List.set_cons_succ]); (refine wpAnyH_take (i := 3) (oi := ⟨some 26, _, _, _, _, _⟩) (v := ?_) rfl (by kernel_rfl) (by kernel_rfl) (by kernel_rfl) (fun _ _ _ h => h) (Or.inl ⟨by rfl, ?_⟩) (by assumption) ?_; rotate_left 1; (focus (intro w hSw; (try dsimp only at hSw); go_simp <;> try (first | (with_reducible rfl) | (rw [if_neg (by omega)])))); try simp only [Act.put, List.setIfInBounds_toArray, List.set_cons_zero, List.set_cons_succ]); (refine wpAnyH_take (i := 5) (oi := ⟨some 28, _, _, _, _, _⟩) (v := ?_) rfl (by kernel_rfl) (by kernel_rfl) (by kernel_rfl) (fun _ _ _ h => h) (Or.inl ⟨by rfl, ?_⟩) (by assumption) ?_; rotate_left 1; (focus (intro w hSw; (try dsimp only at hSw); go_simp <;> try (first | (with_reducible rfl) | (rw [if_neg (by omega)])))); try simp only [Act.put, List.setIfInBounds_toArray, List.set_cons_zero, List.set_cons_succ]); (refine wpAnyH_take (i := 6) (oi := ⟨some 29, _, _, _, _, _⟩) (v := ?_) rfl (by kernel_rfl) (by kernel_rfl) (by kernel_rfl) (fun _ _ _ h => h) (Or.inl ⟨by rfl, ?_⟩) (by assumption) ?_; rotate_left 1; (focus (intro w hSw; (try dsimp only at hSw); go_simp <;> try (first | (with_reducible rfl) | (rw [if_neg (by omega)])))); try simp only [Act.put, List.setIfInBounds_toArray, List.set_cons_zero, List.set_cons_succ]); (refine wpAnyH_take (i := 7) (oi := ⟨some 30, _, _, _, _, _⟩) (v := ?_) rfl (by kernel_rfl) (by kernel_rfl) (by kernel_rfl) (fun _ _ _ h => h) (Or.inl ⟨by rfl, ?_⟩) (by assumption) ?_; rotate_left 1; (focus (intro w hSw; (try dsimp only at hSw); go_simp <;> try (first | (with_reducible rfl) | (rw [if_neg (by omega)])))); try simp only [Act.put, List.setIfInBounds_toArray, List.set_cons_zero, List.set_cons_succ]); (refine wpAnyH_take (i := 8) (oi := ⟨some 31, _, _, _, _, _⟩) (v := ?_) rfl (by kernel_rfl) (by kernel_rfl) (by kernel_rfl) (fun _ _ _ h => h) (Or.inl ⟨by rfl, ?_⟩) (by assumption) ?_; rotate_left 1; (focus (intro w hSw; (try dsimp only at hSw); go_simp <;> try (first | (with_reducible rfl) | (rw [if_neg (by omega)])))); try simp only [Act.put, List.setIfInBounds_toArray, List.set_cons_zero, List.set_cons_succ]); (refine wpAnyH_take (i := 9) (oi := ⟨some 32, _, _, _, _, _⟩) (v := ?_) rfl (by kernel_rfl) (by kernel_rfl) (by kernel_rfl) (fun _ _ _ h => h) (Or.inl ⟨by rfl, ?_⟩) (by assumption) ?_; rotate_left 1; (focus (intro w hSw; (try dsimp only at hSw); go_simp <;> try (first | (with_reducible rfl) | (rw [if_neg (by omega)])))); try simp only [Act.put, List.setIfInBounds_toArray, List.set_cons_zero, List.set_cons_succ]))
  refine wpAnyH_ready (rs := [4, 10]) (by kernel_rfl) (by simp) ?_
  refine AllReadyH.cons (o := ⟨some 27, _, _, _, _, _⟩) rfl (fun K hK => ?_) (AllReadyH.cons (o := ⟨some 33, _, _, _, _, _⟩) rfl (fun K hK => ?_) AllReadyH.nil)
  · go_simp
    (refine hK.out _ _ ?_ (fun hHeld => ?_))
    · exact hHeld
    refine wpAnyH_ready (rs := [10]) (by kernel_rfl) (by simp) ?_
    refine AllReadyH.cons (o := ⟨some 33, _, _, _, _, _⟩) rfl (fun K hK => ?_) AllReadyH.nil
    go_simp
    refine (flowI_t _ _ _ _ _ HS.out HI.out HO.out q HQ.out).mono ?_
    rintro e1 W1 ⟨rfl, b1d⟩
    have b1 : Below Wt.heap.size Wt W1 := ⟨b1d.os, b1d.tape, b1d.output, b1d.size, b1d.block⟩
    clear b1d
    have s1 : w.heap.size < W1.heap.size := (by have := b1.size; (try simp at this); omega)
    have kb : b < W1.heap.size := (by omega)
    have K1 := Lib.hid (KT.out.below b1 kl)
    have G1 := Lib.hid (gb_below' GT.out b1)
    have u0 := K1.out.c0
    have u1 := K1.out.c1
    have u2 := K1.out.c2
    have u3 := K1.out.c3
    have u4 := K1.out.c4
    have uf := K1.out.n3
    simp only at u2 u3 u4
    have z0 := (b1.cell (p := ⟨w.heap.size, 0, none⟩) (show w.heap.size < _ by omega)).trans y0
    have z1 := (b1.cell (p := ⟨w.heap.size, 1, none⟩) (show w.heap.size < _ by omega)).trans y1
    clear b1 hHeld
    (refine hK.out _ _ ?_ (fun hHeld => ?_))
    · exact ⟨u0, u1, z0, z1⟩
    ((refine wpAnyH_take (i := 11) (oi := ⟨some 34, _, _, _, _, _⟩) (v := ?_) rfl (by kernel_rfl) (by kernel_rfl) (by kernel_rfl) (fun _ _ _ h => h) (Or.inl ⟨by rfl, ?_⟩) (by assumption) ?_; rotate_left 1; (focus (intro w hSw; (try dsimp only at hSw); go_simp <;> try (first | (with_reducible rfl) | (rw [if_neg (by omega)])))); try simp only [Act.put, List.setIfInBounds_toArray, List.set_cons_zero, List.set_cons_succ]); (refine wpAnyH_take (i := 12) (oi := ⟨some 35, _, _, _, _, _⟩) (v := ?_) rfl (by kernel_rfl) (by kernel_rfl) (by kernel_rfl) (fun _ _ _ h => h) (Or.inl ⟨by rfl, ?_⟩) (by assumption) ?_; rotate_left 1; (focus (intro w hSw; (try dsimp only at hSw); go_simp <;> try (first | (with_reducible rfl) | (rw [if_neg (by omega)])))); try simp only [Act.put, List.setIfInBounds_toArray, List.set_cons_zero, List.set_cons_succ]); (refine wpAnyH_take (i := 13) (oi := ⟨some 36, _, _, _, _, _⟩) (v := ?_) rfl (by kernel_rfl) (by kernel_rfl) (by kernel_rfl) (fun _ _ _ h => h) (Or.inl ⟨by rfl, ?_⟩) (by assumption) ?_; rotate_left 1; (focus (intro w hSw; (try dsimp only at hSw); go_simp <;> try (first | (with_reducible rfl) | (rw [if_neg (by omega)])))); try simp only [Act.put, List.setIfInBounds_toArray, List.set_cons_zero, List.set_cons_succ]); (refine wpAnyH_take (i := 14) (oi := ⟨some 37, _, _, _, _, _⟩) (v := ?_) rfl (by kernel_rfl) (by kernel_rfl) (by kernel_rfl) (fun _ _ _ h => h) (Or.inl ⟨by rfl, ?_⟩) (by assumption) ?_; rotate_left 1; (focus (intro w hSw; (try dsimp only at hSw); go_simp <;> try (first | (with_reducible rfl) | (rw [if_neg (by omega)])))); try simp only [Act.put, List.setIfInBounds_toArray, List.set_cons_zero, List.set_cons_succ]))
    refine wpAnyH_ready (rs := [15]) (by kernel_rfl) (by simp) ?_
    refine AllReadyH.cons (o := ⟨none, _, _, _, _, _⟩) rfl (fun K hK => ?_) AllReadyH.nil
    go_simp
    (refine hK.out _ _ ?_ (fun hHeld => ?_))
    · exact ⟨by first | (simp; done) | go_simp, by first | (simp; done) | go_simp, by first | (simp; done) | go_simp, by first | (simp; done) | go_simp⟩
    refine wpAnyH_done (by kernel_rfl) ?_ _
    have K2 := Lib.hid (K1.out.setPassed (g1 + q))
    have G2 := Lib.hid (gb_set (o := 3) (v := .int .i64 (g1 + q)) G1.out)
    have j2 := K2.out.c2
    have j3 := K2.out.c3
    have j4 := K2.out.c4
    have jl := K2.out.lt
    simp only at j2 j3 j4
    generalize W1.setCell ⟨b, 3, none⟩ (.int .i64 (g1 + q)) = W2 at *
    cases v
    all_goals
      go_wp2_with (go_at_call 49; refine (gtI_any _ _ _ _ _ HV.out).mono ?_; rintro eg Wg ⟨rfl, bg⟩)
      go_ret
      exact ⟨rfl, gb_below' G2.out bg, K2.out.below bg jl⟩
  · go_simp
    refine (flowI_t _ _ _ _ _ HS.out HI.out HO.out q HQ.out).mono ?_
    rintro e1 W1 ⟨rfl, b1d⟩
    have b1 : Below Wt.heap.size Wt W1 := ⟨b1d.os, b1d.tape, b1d.output, b1d.size, b1d.block⟩
    clear b1d
    have s1 : w.heap.size < W1.heap.size := (by have := b1.size; (try simp at this); omega)
    have kb : b < W1.heap.size := (by omega)
    have K1 := Lib.hid (KT.out.below b1 kl)
    have G1 := Lib.hid (gb_below' GT.out b1)
    have u0 := K1.out.c0
    have u1 := K1.out.c1
    have u2 := K1.out.c2
    have u3 := K1.out.c3
    have u4 := K1.out.c4
    have uf := K1.out.n3
    simp only at u2 u3 u4
    have z0 := (b1.cell (p := ⟨w.heap.size, 0, none⟩) (show w.heap.size < _ by omega)).trans y0
    have z1 := (b1.cell (p := ⟨w.heap.size, 1, none⟩) (show w.heap.size < _ by omega)).trans y1
    clear b1 hHeld
    (refine hK.out _ _ ?_ (fun hHeld => ?_))
    · exact ⟨u0, u1, z0, z1⟩
    refine wpAnyH_ready (rs := [4]) (by kernel_rfl) (by simp) ?_
    refine AllReadyH.cons (o := ⟨some 27, _, _, _, _, _⟩) rfl (fun K hK => ?_) AllReadyH.nil
    go_simp
    (refine hK.out _ _ ?_ (fun hHeld => ?_))
    · exact hHeld
    ((refine wpAnyH_take (i := 11) (oi := ⟨some 34, _, _, _, _, _⟩) (v := ?_) rfl (by kernel_rfl) (by kernel_rfl) (by kernel_rfl) (fun _ _ _ h => h) (Or.inl ⟨by rfl, ?_⟩) (by assumption) ?_; rotate_left 1; (focus (intro w hSw; (try dsimp only at hSw); go_simp <;> try (first | (with_reducible rfl) | (rw [if_neg (by omega)])))); try simp only [Act.put, List.setIfInBounds_toArray, List.set_cons_zero, List.set_cons_succ]); (refine wpAnyH_take (i := 12) (oi := ⟨some 35, _, _, _, _, _⟩) (v := ?_) rfl (by kernel_rfl) (by kernel_rfl) (by kernel_rfl) (fun _ _ _ h => h) (Or.inl ⟨by rfl, ?_⟩) (by assumption) ?_; rotate_left 1; (focus (intro w hSw; (try dsimp only at hSw); go_simp <;> try (first | (with_reducible rfl) | (rw [if_neg (by omega)])))); try simp only [Act.put, List.setIfInBounds_toArray, List.set_cons_zero, List.set_cons_succ]); (refine wpAnyH_take (i := 13) (oi := ⟨some 36, _, _, _, _, _⟩) (v := ?_) rfl (by kernel_rfl) (by kernel_rfl) (by kernel_rfl) (fun _ _ _ h => h) (Or.inl ⟨by rfl, ?_⟩) (by assumption) ?_; rotate_left 1; (focus (intro w hSw; (try dsimp only at hSw); go_simp <;> try (first | (with_reducible rfl) | (rw [if_neg (by omega)])))); try simp only [Act.put, List.setIfInBounds_toArray, List.set_cons_zero, List.set_cons_succ]); (refine wpAnyH_take (i := 14) (oi := ⟨some 37, _, _, _, _, _⟩) (v := ?_) rfl (by kernel_rfl) (by kernel_rfl) (by kernel_rfl) (fun _ _ _ h => h) (Or.inl ⟨by rfl, ?_⟩) (by assumption) ?_; rotate_left 1; (focus (intro w hSw; (try dsimp only at hSw); go_simp <;> try (first | (with_reducible rfl) | (rw [if_neg (by omega)])))); try simp only [Act.put, List.setIfInBounds_toArray, List.set_cons_zero, List.set_cons_succ]))
    refine wpAnyH_ready (rs := [15]) (by kernel_rfl) (by simp) ?_
    refine AllReadyH.cons (o := ⟨none, _, _, _, _, _⟩) rfl (fun K hK => ?_) AllReadyH.nil
    go_simp
    (refine hK.out _ _ ?_ (fun hHeld => ?_))
    · exact ⟨by first | (simp; done) | go_simp, by first | (simp; done) | go_simp, by first | (simp; done) | go_simp, by first | (simp; done) | go_simp⟩
    refine wpAnyH_done (by kernel_rfl) ?_ _
    have K2 := Lib.hid (K1.out.setPassed (g1 + q))
    have G2 := Lib.hid (gb_set (o := 3) (v := .int .i64 (g1 + q)) G1.out)
    have j2 := K2.out.c2
    have j3 := K2.out.c3
    have j4 := K2.out.c4
    have jl := K2.out.lt
    simp only at j2 j3 j4
    generalize W1.setCell ⟨b, 3, none⟩ (.int .i64 (g1 + q)) = W2 at *
    cases v
    all_goals
      go_wp2_with (go_at_call 49; refine (gtI_any _ _ _ _ _ HV.out).mono ?_; rintro eg Wg ⟨rfl, bg⟩)
      go_ret
      exact ⟨rfl, gb_below' G2.out bg, K2.out.below bg jl⟩

theorem step_t (b : Nat) (wd sl i o ord : Int) (g : RGate) (w : World) (hk : KeptAt w b wd sl g) (hs : slOk wd sl) (hg : gtOk g.f1 g.f2) (hi : slv i) (ho : slv o) (hord : 0 ≤ ord ∧ ord ≤ 2) (c : Int) (hc : c = stC wd sl ord i o g) :
    Calls Try.prog 51 #[.pointer (some ⟨b, 0, none⟩), .int .i64 ord, .agg #[.int .i64 i, .int .i64 o]] w fun e w' => e = .returned (.int .i64 c) ∧ w.grownBy w' (some b) ∧ (c = 0 → KeptAt w' b wd sl (nxN wd sl ord i o g)) := by
  by_cases hf : ord = 1 ∧ i ≤ o
  · obtain ⟨rfl, hio⟩ := hf
    have e : c = 10 := by rw [hc]; unfold stC; rw [if_pos ⟨rfl, hio⟩]
    subst e
    exact (step_flood b i o w hio).mono fun _ _ h => ⟨h.1, h.2, fun h => by simp at h⟩
  · have e : c = if gtOk (nxN wd sl ord i o g).f1 (nxN wd sl ord i o g).f2 then 0 else 5 := by rw [hc]; unfold stC; rw [if_neg hf]
    cases hop : opN ord i o g.f0
    · have e2 : nxN wd sl ord i o g = ⟨false, g.f1, mvN ord i o g⟩ := by unfold nxN mvN; rw [hop]; simp
      rw [e2] at e ⊢
      have e3 : c = if decide (gtOk g.f1 (mvN ord i o g)) = true then 0 else 5 := by rw [e]; simp
      rw [e3]
      by_cases h1 : ord = 1
      · exact (stepO_f b wd sl i o ord g w hk hs hg hi ho hord h1 (by omega) hop _ rfl _ rfl).mono fun _ _ h => ⟨h.1, h.2.1, fun _ => h.2.2⟩
      · exact (stepN_f b wd sl i o ord g w hk hs hg hi ho hord h1 hop _ rfl _ rfl).mono fun _ _ h => ⟨h.1, h.2.1, fun _ => h.2.2⟩
    · have e2 : nxN wd sl ord i o g = ⟨true, g.f1 + flN wd sl i o, mvN ord i o g⟩ := by unfold nxN mvN; rw [hop]; simp
      rw [e2] at e ⊢
      have e3 : c = if decide (gtOk (g.f1 + flN wd sl i o) (mvN ord i o g)) = true then 0 else 5 := by rw [e]; simp
      rw [e3]
      by_cases h1 : ord = 1
      · exact (stepO_t b wd sl i o ord g w hk hs hg hi ho hord h1 (by omega) hop _ rfl _ rfl).mono fun _ _ h => ⟨h.1, h.2.1, fun _ => h.2.2⟩
      · exact (stepN_t b wd sl i o ord g w hk hs hg hi ho hord h1 hop _ rfl _ rfl).mono fun _ _ h => ⟨h.1, h.2.1, fun _ => h.2.2⟩

end Go.Proofs.Ytcimigaimlojlaa
