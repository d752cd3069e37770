/- What the model asks of a breach's text: plain. -/
import Derived.Test.YticbnahndidplaaDoorBrL
namespace Go.Proofs.YticbnahndidplaaDoor
open Go.RowKit

structure BrK (s p0 p1 p2 p3 p4 : ByteArray) (u : List UInt8) (a b c : Int) : Prop where
  pa : parts s 32 = [p0, p1, p2, p3, p4]
  p0 : p0.data.toList = u ++ [109]
  p1 : p1.data.toList = [115, 105, 108, 108]
  p3 : p3.data.toList = [119, 97, 116, 101, 114]
  na : DecOf u a
  nb : DecOf p2.data.toList b
  nc : DecOf p4.data.toList c
theorem brk_ok {a b c : Int} {s : ByteArray} (h : tlOk a b c) (e : s.data.toList = brL a b c) : BrK s (mkB (Lib.itoa a ++ [109])) (mkB [115, 105, 108, 108]) (mkB (Lib.itoa b)) (mkB [119, 97, 116, 101, 114]) (mkB (Lib.itoa c)) (Lib.itoa a) a b c := by
  have k := br_pt h
  refine ⟨?_, by simp [mkB], by simp [mkB], by simp [mkB], k.na, by simpa [mkB] using k.nb, by simpa [mkB] using k.nc⟩
  rw [parts_split, e, k.parts]
  rfl
theorem brk_val {s p0 p1 p2 p3 p4 : ByteArray} {u : List UInt8} {a b c : Int} (k : BrK s p0 p1 p2 p3 p4 u a b c) : s.data.toList = brL a b c := by
  have hp := k.pa
  rw [parts_split] at hp
  have h2 := congrArg (List.map (fun p : ByteArray => p.data.toList)) hp
  rw [List.map_map] at h2
  have e : (fun p : ByteArray => p.data.toList) ∘ mkB = id := by funext x; simp [mkB]
  rw [e, List.map_id] at h2
  simp only [List.map_cons, List.map_nil] at h2
  rw [k.p0, k.p1, k.p3] at h2
  exact (BrPt.back (u := u) ⟨h2, k.na, k.nb, k.nc⟩)

end Go.Proofs.YticbnahndidplaaDoor
