/- Rows of rows of mills: what holds them; the law's helpers over them. -/
import Derived.Test.YtlkgbemlagfdjaaRMill
import Derived.Test.YtlkgbemlagfdjaaOpen
namespace Go.Proofs.Ytlkgbemlagfdjaa
open Go.RowKit

def mGet (xss : List (List RMill)) (j : Nat) : List RMill := xss.getD j []
/-- how many elements the first k rows have -/
def lenSS (xss : List (List RMill)) : Nat → Nat
  | 0 => 0
  | k + 1 => lenSS xss k + (mGet xss k).length
def totSS (xss : List (List RMill)) : Nat := xss.length + lenSS xss xss.length
theorem lenSS_mono (xss : List (List RMill)) {j k : Nat} (h : j ≤ k) : lenSS xss j ≤ lenSS xss k := by
  induction k with
  | zero => rw [show j = 0 by omega]; exact Nat.le_refl _
  | succ k ih =>
    by_cases e : j = k + 1
    · rw [e]; exact Nat.le_refl _
    · have := ih (by omega); simp only [lenSS]; omega
theorem lenSS_at (xss : List (List RMill)) {j k : Nat} (h : j < k) : lenSS xss j + (mGet xss j).length ≤ lenSS xss k := lenSS_mono xss (show j + 1 ≤ k by omega)
def Wf_MillSS (xss : List (List RMill)) : Prop := ∀ xs ∈ xss, Wf_Mill xs
def Rd_MillSS (w : World) (B : Nat) (A : Option Addr) (n : Nat) (xss : List (List RMill)) : Prop :=
  xss.length = n ∧ (0 < n → ∃ b off, A = some ⟨b, off, none⟩ ∧ b < B ∧ ∀ j, j < n → ∃ A' c', w.cell? ⟨b, off + j, none⟩ = some (.slice A' (mGet xss j).length c') ∧ Rd_Mill w B A' (mGet xss j).length (mGet xss j))
def Wr_MillSS (w : World) (lo hi : Nat) (A : Option Addr) (n : Nat) (xss : List (List RMill)) : Prop :=
  xss.length = n ∧ hi ≤ w.heap.size ∧ (0 < n → ∃ b, ∃ f : Nat → Option Addr, ∃ c : Nat → Nat, A = some ⟨b, 0, none⟩ ∧ lo ≤ b ∧ b < hi ∧ ∀ j, j < n → w.cell? ⟨b, j, none⟩ = some (.slice (f j) (mGet xss j).length (c j)) ∧ Wr_Mill w lo (f j) (mGet xss j).length (mGet xss j) ∧ Lt hi (f j) (mGet xss j).length ∧ (0 < (mGet xss j).length → ablk (f j) ≠ some b) ∧ ∀ i, i < j → 0 < (mGet xss i).length → 0 < (mGet xss j).length → ablk (f i) ≠ ablk (f j))
section
variable {w w' : World} {B B' lo lo' hi n : Nat} {A : Option Addr} {xss : List (List RMill)}
theorem Rd_MillSS.below (h : Rd_MillSS w B A n xss) (hb : Below B w w') : Rd_MillSS w' B A n xss :=
  ⟨h.1, fun hn => by
    obtain ⟨b, off, e, hB, hc⟩ := h.2 hn
    refine ⟨b, off, e, hB, fun j hj => ?_⟩
    obtain ⟨A', c', h1, h2⟩ := hc j hj
    exact ⟨A', c', (hb.cell (p := ⟨b, off + j, none⟩) hB).trans h1, h2.below hb⟩⟩
theorem Rd_MillSS.mono (h : Rd_MillSS w B A n xss) (hB' : B ≤ B') : Rd_MillSS w B' A n xss :=
  ⟨h.1, fun hn => by
    obtain ⟨b, off, e, hB, hc⟩ := h.2 hn
    refine ⟨b, off, e, by omega, fun j hj => ?_⟩
    obtain ⟨A', c', h1, h2⟩ := hc j hj
    exact ⟨A', c', h1, h2.mono hB'⟩⟩
theorem Wr_MillSS.rd (h : Wr_MillSS w lo hi A n xss) : Rd_MillSS w w.heap.size A n xss :=
  ⟨h.1, fun hn => by
    obtain ⟨b, f, c, e, _, hB, hc⟩ := h.2.2 hn
    have := h.2.1
    refine ⟨b, 0, e, by omega, fun j hj => ?_⟩
    obtain ⟨h1, h2, _⟩ := hc j hj
    exact ⟨f j, c j, by rw [Nat.zero_add]; exact h1, h2.rd⟩⟩
theorem Wr_MillSS.below (h : Wr_MillSS w lo hi A n xss) (hb : Below w.heap.size w w') : Wr_MillSS w' lo hi A n xss :=
  ⟨h.1, Nat.le_trans h.2.1 hb.size, fun hn => by
    obtain ⟨b, f, c, e, h0, hB, hc⟩ := h.2.2 hn
    have := h.2.1
    refine ⟨b, f, c, e, h0, hB, fun j hj => ?_⟩
    obtain ⟨h1, h2, h3⟩ := hc j hj
    exact ⟨(hb.cell (p := ⟨b, j, none⟩) (show b < w.heap.size by omega)).trans h1, h2.below hb, h3⟩⟩
theorem Wr_MillSS.lower (h : Wr_MillSS w lo hi A n xss) (hl : lo' ≤ lo) : Wr_MillSS w lo' hi A n xss :=
  ⟨h.1, h.2.1, fun hn => by
    obtain ⟨b, f, c, e, h0, hB, hc⟩ := h.2.2 hn
    refine ⟨b, f, c, e, by omega, hB, fun j hj => ?_⟩
    obtain ⟨h1, h2, h3⟩ := hc j hj
    exact ⟨h1, h2.lower hl, h3⟩⟩
theorem Wr_MillSS.lt (_h : Wr_MillSS w lo hi A n xss) : True := trivial
theorem Chg.trans2 {lo hi : Nat} {a b c : World} (h : Chg lo hi a b) (k : Chg lo hi b c) : Chg lo hi a c :=
  ⟨k.os.trans h.os, k.tape.trans h.tape, k.output.trans h.output, Nat.le_trans h.size k.size, fun i hi' hl => (k.block i (Nat.lt_of_lt_of_le hi' h.size) hl).trans (h.block i hi' hl)⟩
theorem Chg.wide {lo hi lo' hi' : Nat} {a b : World} (h : Chg lo hi a b) (h1 : lo' ≤ lo) (h2 : hi ≤ hi') : Chg lo' hi' a b :=
  ⟨h.os, h.tape, h.output, h.size, fun i hi' hl => h.block i hi' (by omega)⟩
theorem Wr_Mill.tight {xs : List RMill} {m : Nat} (h : Wr_Mill w lo A m xs) (hm : 0 < m) : ∃ b, ablk A = some b ∧ lo ≤ b ∧ b < w.heap.size ∧ Wr_Mill w b A m xs ∧ Lt (b + 1) A m := by
  obtain ⟨b, off, rfl, h0, hB, hc⟩ := h.2 hm
  exact ⟨b, rfl, h0, hB, ⟨h.1, fun _ => ⟨b, off, rfl, Nat.le_refl _, hB, hc⟩⟩, fun _ b' hb' => by have e : b = b' := (by simpa [ablk] using hb'); omega⟩
end

theorem IsRowsC.len {goods : List (Value → Prop)} {w : World} {a : Option Addr} {len cap : Nat} (h : IsRowsC goods w a len cap) : len ≤ maxLen := by
  rcases h with ⟨_, rfl, _⟩ | ⟨x, _, hl, hm, _⟩
  · exact Nat.zero_le _
  · omega
theorem IsRowsC.rd_MillSS {w : World} {a : Option Addr} {len cap : Nat} (h : IsRowsC [gInt, gInt, gInt, gInt] w a len cap) : ∃ xss, Rd_MillSS w w.heap.size a len xss ∧ Wf_MillSS xss ∧ ∀ j, (mGet xss j).length ≤ maxLen := by
  rcases h with ⟨rfl, rfl, rfl⟩ | ⟨x, rfl, hl, hm, hc⟩
  · exact ⟨[], ⟨rfl, fun h => absurd h (by omega)⟩, (fun xs hxs => by cases hxs), fun j => by simp [mGet]⟩
  · obtain ⟨xss, hxl, hx⟩ := list_of (R := fun i xs => ∃ a' c', w.cell? (x.add i) = some (.slice a' xs.length c') ∧ Rd_Mill w w.heap.size a' xs.length xs ∧ Wf_Mill xs ∧ xs.length ≤ maxLen) len (by
      intro i hi
      obtain ⟨a', l', c', h1, h2⟩ := hc i (by omega)
      obtain ⟨xs, h3, h4⟩ := h2.rd_Mill
      have hl9 := h3.len
      have hl8 := h2.len
      subst hl9
      exact ⟨xs, a', c', h1, h3, h4, hl8⟩)
    refine ⟨xss, ⟨hxl, fun hn => ?_⟩, ?_, ?_⟩
    · obtain ⟨a0, c0, h0, _⟩ := hx 0 (by omega)
      obtain ⟨b, off, spot⟩ := x
      have hspot : spot = none := by simpa [Addr.add] using World.cell?_spot h0
      subst hspot
      have hb := World.block_lt_of_cell? _ _ h0
      refine ⟨b, off, rfl, by simpa [Addr.add] using hb, fun j hj => ?_⟩
      obtain ⟨a', c', h1, h2, _⟩ := hx j (by omega)
      have e : mGet xss j = xss[j]'(by omega) := by unfold mGet; rw [List.getD_eq_getElem?_getD, List.getElem?_eq_getElem (by omega)]; rfl
      rw [e]
      rw [addr_add] at h1
      exact ⟨a', c', h1, h2⟩
    · intro xs hxs
      obtain ⟨j, hj, rfl⟩ := List.getElem_of_mem hxs
      obtain ⟨a', c', _, _, h3, _⟩ := hx j hj
      exact h3
    · intro j
      unfold mGet
      rw [List.getD_eq_getElem?_getD]
      by_cases hj : j < xss.length
      · rw [List.getElem?_eq_getElem hj]
        obtain ⟨a', c', _, _, _, h4⟩ := hx j hj
        exact h4
      · rw [List.getElem?_eq_none (by omega)]; simp

set_option maxHeartbeats 800000 in
theorem szMillSS_ok (A : Option Addr) (n k : Nat) (xss : List (List RMill)) (left : Int) (w : World) (ha : Rd_MillSS w w.heap.size A n xss) (h : (totSS xss : Int) ≤ left) (h2 : left ≤ 1048576) :
    Calls Try.prog 20 #[.slice A n k, .int .i64 left] w fun e w' => e = .returned (.int .i64 (left - (totSS xss : Int))) ∧ Below w.heap.size w w' := by
  have hl := ha.1
  have HA := Lib.hid ha
  have ht : (totSS xss : Int) = (n : Int) + (lenSS xss n : Int) := by unfold totSS; rw [hl]; omega
  rw [ht] at h ⊢
  clear ha ht
  go_enter Try.func20, Try.ntmps20
  go_wp2
  go_loopw [1, 5] (fun q i wr => ∃ k : Nat, k ≤ n ∧ i = .int .i64 (k : Int) ∧ q = .int .i64 (left - (n : Int) - (lenSS xss k : Int)) ∧ Below w.heap.size w wr) (fun _ i _ => n - (intOf i).toNat)
  case atStart => exact ⟨0, by omega, rfl, by simp [lenSS], Below.refl _ _⟩
  case round =>
    obtain ⟨k, hk, rfl, rfl, hb⟩ := hrel
    by_cases hlt : k < n
    · obtain ⟨b, off, rfl, hB, hc⟩ := HA.out.2 (by omega)
      obtain ⟨A', c', h1, h3⟩ := hc k hlt
      have c1 := (hb.cell (p := ⟨b, off + k, none⟩) hB).trans h1
      have hm := lenSS_at xss hlt
      have hs : lenSS xss (k + 1) = lenSS xss k + (mGet xss k).length := rfl
      have HS := Lib.hid hs
      clear hc h1 h3 hs
      obtain ⟨l, hl9⟩ : ∃ l, l = (mGet xss k).length := ⟨_, rfl⟩
      rw [← hl9] at c1 hm HS
      obtain ⟨s, hs9⟩ : ∃ s, s = lenSS xss k := ⟨_, rfl⟩
      rw [← hs9] at hm HS ⊢
      obtain ⟨t, ht9⟩ : ∃ t, t = lenSS xss n := ⟨_, rfl⟩
      rw [← ht9] at hm h
      clear hl9 hs9 ht9
      have i1 := IntWalk.i64_in (left - (n : Int) - (s : Int)) (by omega)
      go_wp2_with (go_at_call 58; refine (szMillS_ok _ _ _ _ _ (by omega) (by omega)).mono ?_; rintro e1 w1 ⟨rfl, b1⟩)
      go_roundw
      case rel => exact ⟨k + 1, by omega, by go_num, by rw [HS.out]; congr 1; omega, hb.trans (b1.mono hb.size)⟩
      case measure => simp [intOf]; omega
    · obtain rfl : k = n := by omega
      go_wp2
      go_ret
      exact ⟨ret_int (by omega), hb⟩

set_option maxHeartbeats 800000 in
theorem szMillSS_no (A : Option Addr) (n k : Nat) (xss : List (List RMill)) (left : Int) (w : World) (ha : Rd_MillSS w w.heap.size A n xss) (hm : ∀ j, (mGet xss j).length ≤ maxLen) (hn : n ≤ maxLen) (h : left < (totSS xss : Int)) (h0 : 0 ≤ left) (h2 : left ≤ 1048576) :
    Calls Try.prog 20 #[.slice A n k, .int .i64 left] w fun e w' => e = .returned (.int .i64 (-1)) ∧ Below w.heap.size w w' := by
  have hl := ha.1
  have HA := Lib.hid ha
  have HM := Lib.hid hm
  have ht : (totSS xss : Int) = (n : Int) + (lenSS xss n : Int) := by unfold totSS; rw [hl]; omega
  rw [ht] at h
  unfold maxLen at hn
  clear ha ht hm
  by_cases hln : left < (n : Int)
  · go_enter Try.func20, Try.ntmps20
    go_wp2
    go_ret
    exact ⟨rfl, Below.refl _ _⟩
  · have hln' : (n : Int) ≤ left := by omega
    clear hln
    go_enter Try.func20, Try.ntmps20
    go_wp2
    go_loopw [1, 5] (fun q i wr => ∃ k : Nat, k ≤ n ∧ i = .int .i64 (k : Int) ∧ q = .int .i64 (left - (n : Int) - (lenSS xss k : Int)) ∧ (lenSS xss k : Int) ≤ left - (n : Int) ∧ Below w.heap.size w wr) (fun _ i _ => n - (intOf i).toNat)
    case atStart => exact ⟨0, by omega, rfl, by simp [lenSS], by simp [lenSS]; omega, Below.refl _ _⟩
    case round =>
      obtain ⟨k, hk, rfl, rfl, hle, hb⟩ := hrel
      by_cases hlt : k < n
      · obtain ⟨b, off, rfl, hB, hc⟩ := HA.out.2 (by omega)
        obtain ⟨A', c', h1, h3⟩ := hc k hlt
        have c1 := (hb.cell (p := ⟨b, off + k, none⟩) hB).trans h1
        have hml := HM.out k
        have hml' := hml
        unfold maxLen at hml'
        have hs : lenSS xss (k + 1) = lenSS xss k + (mGet xss k).length := rfl
        have HS := Lib.hid hs
        clear hc h1 h3 hs
        obtain ⟨l, hl9⟩ : ∃ l, l = (mGet xss k).length := ⟨_, rfl⟩
        rw [← hl9] at c1 hml hml' HS
        obtain ⟨s, hs9⟩ : ∃ s, s = lenSS xss k := ⟨_, rfl⟩
        rw [← hs9] at HS hle ⊢
        clear hl9 hs9
        have i1 := IntWalk.i64_in (left - (n : Int) - (s : Int)) (by omega)
        by_cases hg : (l : Int) ≤ left - (n : Int) - (s : Int)
        · go_wp2_with (go_at_call 58; refine (szMillS_ok _ _ _ _ _ (by omega) (by omega)).mono ?_; rintro e1 w1 ⟨rfl, b1⟩)
          go_roundw
          case rel => exact ⟨k + 1, by omega, by go_num, by rw [HS.out]; congr 1; omega, by rw [HS.out]; omega, hb.trans (b1.mono hb.size)⟩
          case measure => simp [intOf]; omega
        · go_wp2_with (go_at_call 58; refine (szMillS_no _ _ _ _ _ hml (by omega) (by omega)).mono ?_; rintro e1 w1 ⟨rfl, b1⟩)
          go_ret
          exact ⟨rfl, hb.trans (b1.mono hb.size)⟩
      · obtain rfl : k = n := by omega
        exfalso
        omega

set_option maxHeartbeats 800000 in
theorem eqMillSS_x (A B : Option Addr) (n c d : Nat) (xss : List (List RMill)) (w : World) (hn : totSS xss ≤ 1048576) (ha : Rd_MillSS w w.heap.size A n xss) (hb : Rd_MillSS w w.heap.size B n xss) :
    Calls Try.prog 24 #[.slice A n c, .slice B n d] w fun e w' => e = .returned (.bool true) ∧ Below w.heap.size w w' := by
  have h0 : ((n : Int) != (n : Int)) = false := by simp
  have hl := ha.1
  have HA := Lib.hid ha
  have HB := Lib.hid hb
  unfold totSS at hn
  rw [hl] at hn
  clear ha hb
  go_enter Try.func24, Try.ntmps24
  go_wp2
  go_loopw [5] (fun i wr => ∃ k : Nat, k ≤ n ∧ i = .int .i64 (k : Int) ∧ Below w.heap.size w wr) (fun i _ => n - (intOf i).toNat)
  case atStart => exact ⟨0, by omega, rfl, Below.refl _ _⟩
  case round =>
    obtain ⟨k, hk, rfl, hb⟩ := hrel
    by_cases hlt : k < n
    · obtain ⟨b, off, rfl, hB, hc⟩ := HA.out.2 (by omega)
      obtain ⟨A', c', h1, h3⟩ := hc k hlt
      have c1 := (hb.cell (p := ⟨b, off + k, none⟩) hB).trans h1
      obtain ⟨b2, off2, rfl, hB2, hc2⟩ := HB.out.2 (by omega)
      obtain ⟨A2, c2', h12, h32⟩ := hc2 k hlt
      have c2 := (hb.cell (p := ⟨b2, off2 + k, none⟩) hB2).trans h12
      have hm := lenSS_at xss hlt
      have R1 := Lib.hid (Rd_Mill.mono (h3.below hb) hb.size)
      have R2 := Lib.hid (Rd_Mill.mono (h32.below hb) hb.size)
      clear hc h1 h3 hc2 h12 h32
      obtain ⟨xs, hx⟩ : ∃ xs, xs = mGet xss k := ⟨_, rfl⟩
      rw [← hx] at c1 c2 hm R1 R2
      obtain ⟨l, hl9⟩ : ∃ l, l = xs.length := ⟨_, rfl⟩
      rw [← hl9] at c1 c2 hm R1 R2
      clear hx hl9
      go_wp2
      go_region_with (go_at_call 63; refine (eqMillS_x A' A2 l c' c2' xs _ (by omega) ((R1.out.below (by repeat (first | assumption | exact Below.refl _ _ | (refine Below.setCell ?_ (by first | omega | (simp; done) | (simp; omega)) _) | apply below_drewN | apply Below.drew | (refine Below.alloc ?_ (by first | omega | (simp; done) | (simp; omega)) _)))).mono (by first | omega | (simp; done) | (simp; omega))) ((R2.out.below (by repeat (first | assumption | exact Below.refl _ _ | (refine Below.setCell ?_ (by first | omega | (simp; done) | (simp; omega)) _) | apply below_drewN | apply Below.drew | (refine Below.alloc ?_ (by first | omega | (simp; done) | (simp; omega)) _)))).mono (by first | omega | (simp; done) | (simp; omega)))).mono ?_; rintro e1 w1 ⟨rfl, b1⟩)
      all_goals go_wp2
      all_goals
        go_roundw
        case rel => exact ⟨k + 1, by omega, by go_num, hb.trans (Below.mono (show Below wr.heap.size wr w1 from ⟨b1.os, b1.tape, b1.output, b1.size, b1.block⟩) hb.size)⟩
        case measure => simp [intOf]; omega
    · obtain rfl : k = n := by omega
      go_wp2
      go_ret
      exact ⟨rfl, hb⟩

end Go.Proofs.Ytlkgbemlagfdjaa
