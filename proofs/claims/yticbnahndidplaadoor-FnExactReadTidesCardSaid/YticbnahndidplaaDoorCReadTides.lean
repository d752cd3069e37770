import Derived.Test.YticbnahndidplaaDoorTrS
namespace Go.Proofs.YticbnahndidplaaDoor
open Go.RowKit

/- (hpow : PowTab w): the environment is handed on in its place -/
noncomputable def r0_ReadTides (a0 : ByteArray) : List RTide := (rdRes a0).getD []
noncomputable def r1_ReadTides (a0 : ByteArray) : Bool := (rdRes a0).isSome
theorem len_r0_ReadTides (a0 : ByteArray) : (r0_ReadTides a0).length ≤ 1048576 := by
  unfold r0_ReadTides
  cases h : rdRes a0 with
  | none => simp
  | some xs =>
    have := ((rd_iff _ _).1 h).1.2.2
    show xs.length ≤ _
    omega
theorem dk_below {w w' : World} (h : DkEnv w) (hb : Below w.heap.size w w') : DkEnv w' := h.below hb
theorem specC_ReadTides (a0 : ByteArray) (w : World) (ha0 : a0.size ≤ 1048576) :
    Calls Tryd.prog 16 #[.string a0] w fun e w' => ∃ B0 dB0, e = .returned (.tuple #[.slice B0 (r0_ReadTides a0).length dB0, .bool (r1_ReadTides a0)]) ∧ Below w.heap.size w w' ∧ Wr_Tide w' w.heap.size B0 (r0_ReadTides a0).length (r0_ReadTides a0) := readTides_spec a0 w ha0

theorem implC_ReadTides (a0 : ByteArray) (w : World) (ha0 : a0.size ≤ 1048576) (env : DkEnv w) :
    Calls Tryd.prog 17 #[.string a0] w fun e w' => ∃ B0 dB0, e = .returned (.tuple #[.slice B0 (r0_ReadTides a0).length dB0, .bool (r1_ReadTides a0)]) ∧ Below w.heap.size w w' ∧ Wr_Tide w' w.heap.size B0 (r0_ReadTides a0).length (r0_ReadTides a0) := readTides_impl a0 w ha0 env

end Go.Proofs.YticbnahndidplaaDoor
