import Derived.Test.YtmalhpecenfogaaDoorNumS
import Derived.Test.YtmalhpecenfogaaDoorNumI
namespace Go.Proofs.YtmalhpecenfogaaDoor
open Go.RowKit

theorem dec_res (l : List UInt8) : ∃ res : Option Int, ∀ n, res = some n ↔ DecOf l n := by
  by_cases h : ∃ n, DecOf l n
  · obtain ⟨n, hn⟩ := h
    exact ⟨some n, fun m => ⟨fun e => by injection e with e; exact e ▸ hn, fun hm => by rw [hn.inj hm]⟩⟩
  · exact ⟨none, fun m => ⟨fun e => by simp at e, fun hm => absurd ⟨m, hm⟩ h⟩⟩

set_option maxHeartbeats 400000 in
theorem walk_FnExactReadDecimal (a0 : ByteArray) (w : World) (w0 : a0.size ≤ maxLen) (hL : laidMetH Tryd.prog Rows.fnExactReadDecimalRow.laid w) :
    Calls Tryd.prog 6 #[.string a0] w fun e w' => e = .returned (.bool true) ∧ Below w.heap.size w w' := by
  rw [MakeChecks.laidMetH_plain _ _ _ (by kernel_rfl)] at hL
  have env : NumEnv w := ⟨pow_of_laid hL (.tail _ (.tail _ (.head _))),
    err_of_laid hL (.tail _ (.tail _ (.tail _ (.tail _ (.head _))))) (by kernel_rfl) (t := 40) (by kernel_rfl) Tryd.underlying40 ⟨_, _, rfl⟩,
    err_of_laid hL (.tail _ (.tail _ (.tail _ (.head _)))) (by kernel_rfl) (t := 40) (by kernel_rfl) Tryd.underlying40 ⟨_, _, rfl⟩⟩
  have HE := Lib.hid env
  clear hL env
  unfold maxLen at w0
  by_cases hn : a0.size ≤ 1048576
  · obtain ⟨res, hres⟩ := dec_res a0.data.toList
    have HR := Lib.hid hres
    have e1 : (res.getD 0 != res.getD 0) = false := by simp
    have e2 : (res.isSome != res.isSome) = false := by simp
    clear hres
    go_enter Tryd.func6, Tryd.ntmps6
    go_wp2_with (first
      | (go_at_call 31; refine (num_spec _ _ hn _ HR.out).mono ?_; rintro e w1 ⟨rfl, b1⟩)
      | (go_at_call 10; refine (num_impl _ _ hn (HE.out.below b1) _ HR.out).mono ?_; rintro e w2 ⟨rfl, b2⟩)
      | go_in)
    go_ret
    exact ⟨rfl, b1.trans (b2.mono b1.size)⟩
  · go_enter Tryd.func6, Tryd.ntmps6
    go_wp2
    go_ret
    exact ⟨rfl, Below.refl _ _⟩


end Go.Proofs.YtmalhpecenfogaaDoor
