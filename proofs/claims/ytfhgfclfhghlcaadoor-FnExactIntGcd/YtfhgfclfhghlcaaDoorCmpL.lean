import Derived.Test.YtfhgfclfhghlcaaDoorReads
import Derived.Deep.QuietTactic
import Derived.BigQuiet
import Derived.WalkSmall
namespace Go.Proofs.YtfhgfclfhghlcaaDoor
open Go.ChangeShapes Go.WideShapes Go.ChangeAt Go.RowKit
def cmpTop (a b : List Nat) : Nat → Int
  | 0 => 0
  | k + 1 => if a.getD k 0 < b.getD k 0 then -1 else if b.getD k 0 < a.getD k 0 then 1 else cmpTop a b k
def cmpL (a b : List Nat) : Int := if a.length < b.length then -1 else if b.length < a.length then 1 else cmpTop a b a.length
theorem IsL.cells {B : Nat} {w : World} {a : Option Addr} {cap n : Nat} {l : List Nat} (h : IsL B w (.slice a n cap) l) : n = l.length ∧ l.length ≤ cap ∧ cap ≤ maxLen ∧ okL l ∧
    ∀ i, i < l.length → ∃ b off, a = some ⟨b, off, none⟩ ∧ b < w.heap.size ∧ w.cell? ⟨b, off + i, none⟩ = some (.int .u32 (l.getD i 0 : Nat)) := by
  obtain ⟨a', cap', he, hl, hcap, hok, hr⟩ := h
  simp only [Value.slice.injEq] at he
  obtain ⟨rfl, rfl, rfl⟩ := he
  refine ⟨rfl, hl, hcap, hok, fun i hi => ?_⟩
  rcases hr with rfl | ⟨b, off, rfl, _, hb, hc⟩
  · simp at hi
  · exact ⟨b, off, rfl, hb, hc i hi⟩
set_option maxHeartbeats 1000000 in
theorem compareLimbs_any (B : Nat) (va vb : Value) (a b : List Nat) (w : World) (ha : IsL B w va a) (hb : IsL B w vb b) :
    Calls Tryd.prog 58 #[va, vb] w fun e w' => e = .returned (.int .i64 (cmpL a b)) ∧ Below w.heap.size w w' := by
  obtain ⟨pa, ca, rfl, _⟩ := id ha
  obtain ⟨pb, cb, rfl, _⟩ := id hb
  obtain ⟨_, ha1, ha2, haok, hca⟩ := ha.cells
  obtain ⟨_, hb1, hb2, hbok, hcb⟩ := hb.cells
  unfold maxLen at ha2 hb2
  have HA : Hid (∀ i, i < a.length → ∃ b off, pa = some ⟨b, off, none⟩ ∧ b < w.heap.size ∧ w.cell? ⟨b, off + i, none⟩ = some (.int .u32 (a.getD i 0 : Nat))) := hca
  have HB : Hid (∀ i, i < b.length → ∃ c off, pb = some ⟨c, off, none⟩ ∧ c < w.heap.size ∧ w.cell? ⟨c, off + i, none⟩ = some (.int .u32 (b.getD i 0 : Nat))) := hcb
  clear hca hcb ha hb haok hbok
  by_cases h1 : a.length = b.length
  · have z : ((a.length : Int) != b.length) = false := by rw [bne_eq_false_iff_eq]; omega
    have HR : Hid (cmpL a b = cmpTop a b a.length) := by show cmpL a b = _; unfold cmpL; rw [if_neg (by omega), if_neg (by omega)]
    have HL : Hid (a.length = b.length) := h1
    clear h1
    go_enter Tryd.func58, Tryd.ntmps58
    go_wp2
    go_loopw [5] (fun i wr => ∃ k : Nat, k ≤ a.length ∧ i = .int .i64 (k - 1) ∧ cmpTop a b a.length = cmpTop a b k ∧ Below w.heap.size w wr) (fun i _ => (intOf i + 1).toNat)
    case atStart => exact ⟨a.length, Nat.le_refl _, rfl, rfl, Below.refl _ _⟩
    case round =>
      obtain ⟨k, hk, rfl, hp, hB⟩ := hrel
      have HP : Hid (cmpTop a b a.length = cmpTop a b k) := hp
      have HBB : Hid (Below w.heap.size w wr) := hB
      clear hp hB
      cases k with
      | zero =>
        go_wp2
        go_ret
        exact ⟨ret_int (by rw [HR.out, HP.out]; rfl), HBB.out⟩
      | succ k =>
        obtain ⟨ba, oa, rfl, hla, hca⟩ := HA.out k (by omega)
        obtain ⟨bb, ob, rfl, hlb, hcb⟩ := HB.out k (by have := HL.out; omega)
        rw [← HBB.out.cell (p := ⟨ba, oa + k, none⟩) hla] at hca
        rw [← HBB.out.cell (p := ⟨bb, ob + k, none⟩) hlb] at hcb
        obtain ⟨x, hx⟩ : ∃ x, a.getD k 0 = x := ⟨_, rfl⟩
        obtain ⟨y, hy⟩ : ∃ y, b.getD k 0 = y := ⟨_, rfl⟩
        have HC : Hid (cmpTop a b (k + 1) = if x < y then -1 else if y < x then 1 else cmpTop a b k) := by rw [← hx, ← hy]; rfl
        rw [hx] at hca
        rw [hy] at hcb
        have hkb : k < b.length := by have := HL.out; omega
        clear hx hy
        by_cases h1 : x < y
        · have HE : Hid (cmpTop a b (k + 1) = -1) := HC.out.trans (if_pos h1)
          clear HC
          go_wp2
          go_quiet (fail)
          go_wp2
          go_ret
          exact ⟨ret_int (by rw [HR.out, HP.out, HE.out]), below_drewN HBB.out _⟩
        · by_cases h2 : y < x
          · have HE : Hid (cmpTop a b (k + 1) = 1) := HC.out.trans ((if_neg h1).trans (if_pos h2))
            clear HC
            go_wp2
            go_quiet (fail)
            go_wp2
            go_quiet (fail)
            go_wp2
            go_ret
            exact ⟨ret_int (by rw [HR.out, HP.out, HE.out]), below_drewN (below_drewN HBB.out _) _⟩
          · have HE : Hid (cmpTop a b (k + 1) = cmpTop a b k) := HC.out.trans ((if_neg h1).trans (if_neg h2))
            clear HC
            go_wp2
            go_quiet (fail)
            go_wp2
            go_quiet (fail)
            go_wp2
            go_roundw
            case rel => exact ⟨k, by omega, val_int (by omega), HP.out.trans HE.out, below_drewN HBB.out _⟩
            case measure => simp [intOf]
  · have z : ((a.length : Int) != b.length) = true := by rw [bne_iff_ne]; omega
    by_cases h2 : a.length < b.length
    · have HR : Hid (cmpL a b = -1) := if_pos h2
      go_enter Tryd.func58, Tryd.ntmps58
      go_wp2
      go_ret
      exact ⟨ret_int HR.out.symm, Below.refl _ _⟩
    · have HR : Hid (cmpL a b = 1) := (if_neg h2).trans (if_pos (by omega))
      go_enter Tryd.func58, Tryd.ntmps58
      go_wp2
      go_ret
      exact ⟨ret_int HR.out.symm, Below.refl _ _⟩
set_option maxHeartbeats 1000000 in
theorem l1CmpD_any (B : Nat) (va vb : Value) (a b : List Nat) (w : World) (ha : IsL B w va a) (hb : IsL B w vb b) :
    Calls Tryd.prog 53 #[va, vb] w fun e w' => e = .returned (.int .i64 (cmpL a b)) ∧ Below w.heap.size w w' := by
  obtain ⟨pa, ca, rfl, _⟩ := id ha
  obtain ⟨pb, cb, rfl, _⟩ := id hb
  obtain ⟨_, ha1, ha2, haok, hca⟩ := ha.cells
  obtain ⟨_, hb1, hb2, hbok, hcb⟩ := hb.cells
  unfold maxLen at ha2 hb2
  have HA : Hid (∀ i, i < a.length → ∃ b off, pa = some ⟨b, off, none⟩ ∧ b < w.heap.size ∧ w.cell? ⟨b, off + i, none⟩ = some (.int .u32 (a.getD i 0 : Nat))) := hca
  have HB : Hid (∀ i, i < b.length → ∃ c off, pb = some ⟨c, off, none⟩ ∧ c < w.heap.size ∧ w.cell? ⟨c, off + i, none⟩ = some (.int .u32 (b.getD i 0 : Nat))) := hcb
  clear hca hcb ha hb haok hbok
  by_cases h1 : a.length = b.length
  · have z : ((a.length : Int) != b.length) = false := by rw [bne_eq_false_iff_eq]; omega
    have HR : Hid (cmpL a b = cmpTop a b a.length) := by show cmpL a b = _; unfold cmpL; rw [if_neg (by omega), if_neg (by omega)]
    have HL : Hid (a.length = b.length) := h1
    clear h1
    go_enter Tryd.func53, Tryd.ntmps53
    go_wp2
    go_loopw [5] (fun i wr => ∃ k : Nat, k ≤ a.length ∧ i = .int .i64 (k - 1) ∧ cmpTop a b a.length = cmpTop a b k ∧ Below w.heap.size w wr) (fun i _ => (intOf i + 1).toNat)
    case atStart => exact ⟨a.length, Nat.le_refl _, rfl, rfl, Below.refl _ _⟩
    case round =>
      obtain ⟨k, hk, rfl, hp, hB⟩ := hrel
      have HP : Hid (cmpTop a b a.length = cmpTop a b k) := hp
      have HBB : Hid (Below w.heap.size w wr) := hB
      clear hp hB
      cases k with
      | zero =>
        go_wp2
        go_ret
        exact ⟨ret_int (by rw [HR.out, HP.out]; rfl), HBB.out⟩
      | succ k =>
        obtain ⟨ba, oa, rfl, hla, hca⟩ := HA.out k (by omega)
        obtain ⟨bb, ob, rfl, hlb, hcb⟩ := HB.out k (by have := HL.out; omega)
        rw [← HBB.out.cell (p := ⟨ba, oa + k, none⟩) hla] at hca
        rw [← HBB.out.cell (p := ⟨bb, ob + k, none⟩) hlb] at hcb
        obtain ⟨x, hx⟩ : ∃ x, a.getD k 0 = x := ⟨_, rfl⟩
        obtain ⟨y, hy⟩ : ∃ y, b.getD k 0 = y := ⟨_, rfl⟩
        have HC : Hid (cmpTop a b (k + 1) = if x < y then -1 else if y < x then 1 else cmpTop a b k) := by rw [← hx, ← hy]; rfl
        rw [hx] at hca
        rw [hy] at hcb
        have hkb : k < b.length := by have := HL.out; omega
        clear hx hy
        by_cases h1 : x < y
        · have HE : Hid (cmpTop a b (k + 1) = -1) := HC.out.trans (if_pos h1)
          clear HC
          go_wp2
          go_quiet (fail)
          go_wp2
          go_ret
          exact ⟨ret_int (by rw [HR.out, HP.out, HE.out]), below_drewN HBB.out _⟩
        · by_cases h2 : y < x
          · have HE : Hid (cmpTop a b (k + 1) = 1) := HC.out.trans ((if_neg h1).trans (if_pos h2))
            clear HC
            go_wp2
            go_quiet (fail)
            go_wp2
            go_quiet (fail)
            go_wp2
            go_ret
            exact ⟨ret_int (by rw [HR.out, HP.out, HE.out]), below_drewN (below_drewN HBB.out _) _⟩
          · have HE : Hid (cmpTop a b (k + 1) = cmpTop a b k) := HC.out.trans ((if_neg h1).trans (if_neg h2))
            clear HC
            go_wp2
            go_quiet (fail)
            go_wp2
            go_quiet (fail)
            go_wp2
            go_roundw
            case rel => exact ⟨k, by omega, val_int (by omega), HP.out.trans HE.out, below_drewN HBB.out _⟩
            case measure => simp [intOf]
  · have z : ((a.length : Int) != b.length) = true := by rw [bne_iff_ne]; omega
    by_cases h2 : a.length < b.length
    · have HR : Hid (cmpL a b = -1) := if_pos h2
      go_enter Tryd.func53, Tryd.ntmps53
      go_wp2
      go_ret
      exact ⟨ret_int HR.out.symm, Below.refl _ _⟩
    · have HR : Hid (cmpL a b = 1) := (if_neg h2).trans (if_pos (by omega))
      go_enter Tryd.func53, Tryd.ntmps53
      go_wp2
      go_ret
      exact ⟨ret_int HR.out.symm, Below.refl _ _⟩
end Go.Proofs.YtfhgfclfhghlcaaDoor
