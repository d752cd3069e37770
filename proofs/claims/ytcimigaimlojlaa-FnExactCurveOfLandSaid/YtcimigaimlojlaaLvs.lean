/- Levels by steps, and the program's rows of them. -/
import Derived.Test.YtcimigaimlojlaaLandW
import Derived.Test.YtcimigaimlojlaaOwnS
namespace Go.Proofs.Ytcimigaimlojlaa
open Go.RowKit

def lvs (to step : Int) : Nat → Int → List Int
  | 0, _ => []
  | f + 1, y => if y < to then y :: lvs to step f (y + step) else []
theorem lvs_end {to step : Int} {f : Nat} {y : Int} (h : ¬ y < to) : lvs to step f y = [] := by
  cases f with
  | zero => rfl
  | succ f => rw [lvs, if_neg h]
theorem lvs_step {to step : Int} {f : Nat} {y : Int} (h : y < to) : lvs to step (f + 1) y = y :: lvs to step f (y + step) := by rw [lvs, if_pos h]
theorem lvs_in {to step : Int} (hs : 0 ≤ step) : ∀ (f : Nat) (y z : Int), z ∈ lvs to step f y → y ≤ z ∧ z < to := by
  intro f
  induction f with
  | zero => intro y z h; cases h
  | succ f ih =>
    intro y z h
    by_cases hy : y < to
    · rw [lvs_step hy] at h
      rcases List.mem_cons.1 h with rfl | h
      · exact ⟨Int.le_refl _, hy⟩
      · have := ih _ _ h
        omega
    · rw [lvs_end hy] at h
      cases h
theorem lvs_len (to step : Int) : ∀ (f : Nat) (y : Int), (lvs to step f y).length ≤ f := by
  intro f
  induction f with
  | zero => intro y; exact Nat.le_refl _
  | succ f ih =>
    intro y
    have := ih (y + step)
    by_cases hy : y < to
    · rw [lvs_step hy, List.length_cons]; omega
    · rw [lvs_end hy]; exact Nat.zero_le _
def lv4 (fr to step : Int) : List Int := lvs to step 4001 fr
theorem lv4_len (fr to step : Int) : (lv4 fr to step).length ≤ 4001 := lvs_len _ _ _ _
/-- the range that is asked for -/
def rng (fr to step : Int) : Prop := lvl fr ∧ lvl to ∧ fr < to ∧ (1 ≤ step ∧ step ≤ 4000)
instance (fr to step : Int) : Decidable (rng fr to step) := by unfold rng; exact inferInstance
theorem lv4_in {fr to step : Int} (h : rng fr to step) {z : Int} (hz : z ∈ lv4 fr to step ++ [to]) : lvl z := by
  obtain ⟨⟨h1, h2⟩, ⟨h3, h4⟩, h5, h6, h7⟩ := h
  rcases List.mem_append.1 hz with hz | hz
  · have := lvs_in (by omega) _ _ _ hz
    exact ⟨by omega, by omega⟩
  · have : z = to := by simpa using hz
    exact ⟨by omega, by omega⟩

set_option maxRecDepth 100000 in
set_option maxHeartbeats 1600000 in
theorem levelsBetween_t (fr to step : Int) (w : World) (h : rng fr to step) :
    Calls Try.prog 65 #[.int .i64 fr, .int .i64 to, .int .i64 step] w fun e w' => ∃ A c, e = .returned (.slice A ((lv4 fr to step).length + 1) c) ∧ Below w.heap.size w w' ∧ Wr w' w.heap.size A ((lv4 fr to step).length + 1) (lv4 fr to step ++ [to]) := by
  obtain ⟨⟨h1, h2⟩, ⟨h3, h4⟩, h5, h6, h7⟩ := h
  obtain ⟨L, hL⟩ : ∃ L, L = lv4 fr to step := ⟨_, rfl⟩
  have h0 := Lib.hid (show ([] : List Int) ++ lvs to step 4001 fr = L by rw [hL]; rfl)
  have hLn : L.length ≤ 4001 := by rw [hL]; exact lv4_len _ _ _
  rw [← hL]
  clear hL
  go_enter Try.func65, Try.ntmps65
  go_wp2
  go_loopw [7, 8] (fun V at_ wr => ∃ (ds : List Int) (f : Nat) (y : Int), at_ = .int .i64 y ∧ Hid (ds ++ lvs to step f y = L) ∧ -2000 ≤ y ∧ y ≤ 6000 ∧ to - y ≤ (f : Int) ∧ ds.length + f ≤ 4001 ∧ Below w.heap.size w wr ∧ Hid (wr.ownsRow w.heap.size 2 1 V ds.length (ds.map (Value.int .i64)))) (fun _ at_ _ => (to - intOf at_).toNat)
  case atStart => exact ⟨[], 4001, fr, rfl, h0, by omega, by omega, by omega, by simp, Below.refl _ _, World.ownsRow_nil _ _ _ _⟩
  case round =>
    obtain ⟨ds, f, y, rfl, HD, y1, y2, y3, y4, hb, HW⟩ := hrel
    have HS := Lib.hid hb.size
    by_cases hy : y < to
    · obtain ⟨f, rfl⟩ : ∃ g, f = g + 1 := ⟨f - 1, by omega⟩
      have hn : ds.length ≤ 1048576 := by omega
      go_wp2_with (at_builtin; refine wpl_app1 rfl (.tmp 16) (.tmp 18) rfl wr w.heap.size ds.length _ ds y rfl HW.out rfl hn HS.out ?_; intro v1 w1 hown1 hb1 hz1)
      have HV := Lib.hid hown1
      clear hown1
      go_roundw
      case rel => exact ⟨ds ++ [y], f, y + step, by go_num, by have := HD.out; rw [lvs_step hy] at this; show (ds ++ [y]) ++ _ = L; rw [List.append_assoc]; exact this, by omega, by omega, by omega, by rw [List.length_append, List.length_singleton]; omega, hb.trans hb1, by have := HV.out; rw [List.length_append, List.length_singleton]; exact this⟩
      case measure => simp [intOf]; omega
    · have hds : ds = L := by have := HD.out; rw [lvs_end hy, List.append_nil] at this; exact this
      subst hds
      have hn : ds.length ≤ 1048576 := by omega
      go_wp2_with (at_builtin; refine wpl_app1 rfl (.tmp 20) (.tmp 22) rfl wr w.heap.size ds.length _ ds to rfl HW.out rfl hn HS.out ?_; intro v1 w1 hown1 hb1 hz1)
      obtain ⟨A, c, rfl, hwr⟩ := own_wr hown1
      clear hown1
      go_ret
      exact ⟨A, ⟨c, rfl⟩, hb.trans hb1, hwr⟩

end Go.Proofs.Ytcimigaimlojlaa
