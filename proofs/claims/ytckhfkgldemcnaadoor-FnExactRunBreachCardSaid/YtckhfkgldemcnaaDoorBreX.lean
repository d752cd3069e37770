/- Breaches: the box of a new polder. -/
import Derived.Test.YtckhfkgldemcnaaDoorBreQ
import Derived.Test.YtckhfkgldemcnaaDoorBreW
import Derived.Test.YtckhfkgldemcnaaDoorBreK
import Derived.Test.YtckhfkgldemcnaaDoorBreT
namespace Go.Proofs.YtckhfkgldemcnaaDoor
open Go.RowKit

theorem PBox.new (W : World) (a b c h z : Int) (A0 : Option Addr) (n0 k0 : Nat) (A1 : Option Addr) (n1 k1 : Nat) (ov tv : Value) : PBox (W.alloc (.cells #[.int .i64 a, .int .i64 b, .int .i64 c, .slice A0 n0 k0, .slice A1 n1 k1, ov, tv, .int .i64 h, .int .i64 z] 62)) W.heap.size a b c A0 n0 k0 A1 n1 k1 ov tv h z :=
  ⟨by simp, ⟨by simp, by simp, by simp, by simp, by simp, by simp, by simp, by simp, by simp⟩, ⟨by simp, by simp, by simp, by simp⟩⟩
theorem box3 {w V : World} {a b c : Int} {A0 : Option Addr} {n0 k0 : Nat} {A1 : Option Addr} {n1 k1 : Nat} (E : Below (w.heap.size + 1 + 1 + 1) (((w.alloc (.cells #[.slice A0 n0 k0, .slice A1 n1 k1] 30)).alloc (.cells #[.int .i64 a, .int .i64 b, .int .i64 c] 32)).alloc (.cells #[.int .i64 0, .int .i64 0, .int .i64 0] 32)) V) : V.cell? ⟨w.heap.size, 0, none⟩ = some (.slice A0 n0 k0) ∧ V.cell? ⟨w.heap.size, 1, none⟩ = some (.slice A1 n1 k1) ∧ V.cell? ⟨w.heap.size + 1, 0, none⟩ = some (.int .i64 a) ∧ V.cell? ⟨w.heap.size + 1, 1, none⟩ = some (.int .i64 b) ∧ V.cell? ⟨w.heap.size + 1, 2, none⟩ = some (.int .i64 c) ∧ V.cell? ⟨w.heap.size + 1 + 1, 0, none⟩ = some (.int .i64 0) ∧ V.cell? ⟨w.heap.size + 1 + 1, 1, none⟩ = some (.int .i64 0) ∧ V.cell? ⟨w.heap.size + 1 + 1, 2, none⟩ = some (.int .i64 0) ∧ V.frozen? ⟨w.heap.size + 1 + 1, 0, none⟩ = false ∧ V.frozen? ⟨w.heap.size + 1 + 1, 1, none⟩ = false ∧ V.frozen? ⟨w.heap.size + 1 + 1, 2, none⟩ = false :=
  ⟨(E.cell (p := ⟨w.heap.size, 0, none⟩) (show w.heap.size < w.heap.size + 1 + 1 + 1 by omega)).trans (by first | (simp; done) | go_simp), (E.cell (p := ⟨w.heap.size, 1, none⟩) (show w.heap.size < w.heap.size + 1 + 1 + 1 by omega)).trans (by first | (simp; done) | go_simp), (E.cell (p := ⟨w.heap.size + 1, 0, none⟩) (show w.heap.size + 1 < w.heap.size + 1 + 1 + 1 by omega)).trans (by first | (simp; done) | go_simp), (E.cell (p := ⟨w.heap.size + 1, 1, none⟩) (show w.heap.size + 1 < w.heap.size + 1 + 1 + 1 by omega)).trans (by first | (simp; done) | go_simp), (E.cell (p := ⟨w.heap.size + 1, 2, none⟩) (show w.heap.size + 1 < w.heap.size + 1 + 1 + 1 by omega)).trans (by first | (simp; done) | go_simp), (E.cell (p := ⟨w.heap.size + 1 + 1, 0, none⟩) (show w.heap.size + 1 + 1 < w.heap.size + 1 + 1 + 1 by omega)).trans (by first | (simp; done) | go_simp), (E.cell (p := ⟨w.heap.size + 1 + 1, 1, none⟩) (show w.heap.size + 1 + 1 < w.heap.size + 1 + 1 + 1 by omega)).trans (by first | (simp; done) | go_simp), (E.cell (p := ⟨w.heap.size + 1 + 1, 2, none⟩) (show w.heap.size + 1 + 1 < w.heap.size + 1 + 1 + 1 by omega)).trans (by first | (simp; done) | go_simp), (E.frozen (p := ⟨w.heap.size + 1 + 1, 0, none⟩) (show w.heap.size + 1 + 1 < w.heap.size + 1 + 1 + 1 by omega)).trans (by first | (simp; done) | go_simp), (E.frozen (p := ⟨w.heap.size + 1 + 1, 1, none⟩) (show w.heap.size + 1 + 1 < w.heap.size + 1 + 1 + 1 by omega)).trans (by first | (simp; done) | go_simp), (E.frozen (p := ⟨w.heap.size + 1 + 1, 2, none⟩) (show w.heap.size + 1 + 1 < w.heap.size + 1 + 1 + 1 by omega)).trans (by first | (simp; done) | go_simp)⟩
theorem rep_at {w : World} {lo g n : Nat} {s : Int} (h : Wr w lo (some ⟨g, 0, none⟩) n (List.replicate n s)) {k : Nat} (hk : k < n) : w.cell? ⟨g, 0 + k, none⟩ = some (.int .i64 s) := by
  obtain ⟨b, off, e, _, _, hc⟩ := h.2 (by omega)
  injection e with e; injection e with e1 e2
  subst e1 e2
  rw [(hc k hk).1]
  simp [List.getD_eq_getElem?_getD, hk]
theorem pw_e (A0 : Option Addr) (n0 k0 : Nat) (A1 : Option Addr) (n1 k1 : Nat) (a b c s : Int) (O : Option Addr) (no ko : Nat) (w : World) (hno : no ≤ 1048576) :
    Calls Tryd.prog 56 #[.agg #[.slice A0 n0 k0, .slice A1 n1 k1], .agg #[.int .i64 a, .int .i64 b, .int .i64 c], .slice O no ko, .int .i64 s] w fun e w' => ∃ tb, e = .returned (.agg #[.int .i64 a, .int .i64 b, .int .i64 c, .slice A0 n0 k0, .slice A1 n1 k1, .slice O no ko, .slice (some ⟨tb, 0, none⟩) no no, .int .i64 0, .int .i64 0]) ∧ Below w.heap.size w w' ∧ tb < w'.heap.size ∧ w.heap.size ≤ tb ∧ (∀ k, k < no → w'.cell? ⟨tb, 0 + k, none⟩ = some (.int .i64 s)) :=
  (pw_t A0 n0 k0 A1 n1 k1 a b c s O no ko w hno).mono fun _ _ ⟨h1, h2, h3, h4⟩ => ⟨_, h1, h2, h3, by omega, fun _ hk => rep_at h4 hk⟩
theorem bcode_t {ls vs : List Int} {a b c : Int} {p : Prop} [Decidable p] (h : brOk ls vs a b c) (hp : p) : bcode ls vs a b c p = 0 := by unfold bcode; rw [if_pos h, if_pos hp]
theorem bcode_n {ls vs : List Int} {a b c : Int} {p : Prop} [Decidable p] (h : ¬ (brOk ls vs a b c ∧ p)) : (bcode ls vs a b c p != 0) = true := by
  unfold bcode
  by_cases h1 : brOk ls vs a b c
  · rw [if_pos h1, if_neg (fun g => h ⟨h1, g⟩)]; rfl
  · rw [if_neg h1]; rfl

end Go.Proofs.YtckhfkgldemcnaaDoor
