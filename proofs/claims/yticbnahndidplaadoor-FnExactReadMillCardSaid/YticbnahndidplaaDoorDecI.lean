/- The program's decimal of a number, out of the shelf's contract of strconv.FormatInt. -/
import Derived.Test.YticbnahndidplaaDoorDecS
import Derived.Test.YticbnahndidplaaDoorLaid
import Derived.Test.YticbnahndidplaaDoorShelf
import Derived.Lib.LaidTab
import Derived.Lib.AppendIntMem
import Derived.Sort.Grow
namespace Go.Proofs.YticbnahndidplaaDoor
open Go.RowKit

theorem below_grow (w : World) (os : Array Obj) : Below w.heap.size w (Sort.grow w os) :=
  ⟨rfl, rfl, rfl, by simp [Sort.grow], fun k hk => Sort.heap_grow_old w os hk⟩

abbrev PowTab (w : World) : Prop := Lib.TabIs Tryd.prog w "internal/strconv.uint64pow10" .u64 Lib.pow10Tab

theorem pow_of_laid {w : World} {l : List (String × DataW Unit)} (h : laidMet Tryd.prog l w) (hm : ("internal/strconv.uint64pow10", Lib.tabData .u64 Lib.pow10Tab) ∈ l) : PowTab w := by
  obtain ⟨ps, h, _⟩ := h
  obtain ⟨g, t, cs, fuel, p, hg, ht, hv, hd⟩ := laid_at h _ _ hm
  obtain rfl := Option.some.inj ((show Tryd.prog.globalNamed "internal/strconv.uint64pow10" = some 1 by kernel_rfl).symm.trans hg)
  obtain rfl := Option.some.inj ((show (Tryd.prog.globals[1]?).map (·.type) = some 154 by kernel_rfl).symm.trans ht)
  have hc := Lib.cells_of_tab Tryd.underlying154 Tryd.underlying133 (by kernel_rfl) (by kernel_rfl) hd
  show w.var? Tryd.prog _ = _
  rw [hv, ← hc]

theorem pow_below {w w' : World} (h : PowTab w) (hb : Below w.heap.size w w') : PowTab w' := Lib.tabBelow_of_tabIs h w' hb

theorem dec_impl (n : Int) (w : World) (hn : I64 n) (ht : PowTab w) :
    Calls Tryd.prog 67 #[.int .i64 n] w fun e w' => e = .returned (.string ⟨(Lib.itoa n).toArray⟩) ∧ Below w.heap.size w w' := by
  have HN := Lib.hid hn
  have HT := Lib.hid ht
  clear hn ht
  go_enter Tryd.func67, Tryd.ntmps67
  go_wp2_with (first | (go_at_call 100; refine (Tryd.internal_strconv_FormatInt_10 n HN.out.1 HN.out.2 _ HT.out).mono ?_; rintro e w' ⟨rfl, k, os, rfl⟩) | go_in)
  go_ret
  exact ⟨rfl, (below_drewN (Below.refl _ _) k).trans (below_grow (w.drewN k) os)⟩


end Go.Proofs.YticbnahndidplaaDoor
