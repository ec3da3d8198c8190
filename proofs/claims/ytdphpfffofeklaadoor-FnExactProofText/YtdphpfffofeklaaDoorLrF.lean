import Derived.Test.YtdphpfffofeklaaDoorLrA
import Derived.HandedShaped
import Derived.Shelf.Vars
import Derived.Deep.Slices
namespace Go.Proofs.YtdphpfffofeklaaDoor.L
open Go.ChangeShapes Go.WideShapes Go.ChangeAt Go.RowKit
theorem strOf_data (s : ByteArray) : strOf s.data.toList = s := by simp [strOf]
theorem three_of {cs : List Value} (h : cs.length = 3) : ∃ v0 v1 v2, cs = [v0, v1, v2] := by
  match cs, h with
  | [v0, v1, v2], _ => exact ⟨v0, v1, v2, rfl⟩
theorem list_of {α : Type} {Q : Nat → α → Prop} : ∀ n : Nat, (∀ i, i < n → ∃ x, Q i x) → ∃ l : List α, l.length = n ∧ ∀ i (h : i < l.length), Q i l[i]
  | 0, _ => ⟨[], rfl, fun i h => absurd h (Nat.not_lt_zero _)⟩
  | n + 1, h => by
    obtain ⟨l, hl, hq⟩ := list_of n (fun i hi => h i (by omega))
    obtain ⟨x, hx⟩ := h n (by omega)
    refine ⟨l ++ [x], by simp [hl], fun i hi => ?_⟩
    by_cases e : i < l.length
    · rw [List.getElem_append_left e]; exact hq i e
    · have hi' : i = l.length := by simp at hi; omega
      subst hi'
      rw [List.getElem_append_right (Nat.le_refl _)]
      simp only [Nat.sub_self, List.getElem_cons_zero]
      rw [hl]; exact hx
theorem add0 (b off k : Nat) : (⟨b, off, none⟩ : Addr).add k = ⟨b, off + k, none⟩ := by simp [Addr.add]
set_option maxRecDepth 100000 in
theorem strs_of {H : Type} {enc : TypeId × Value → H} {W : World} {v : Value} {fuel : Nat} {x : DataW H × List MemPlace}
    (h : DataW.trod enc Tryd.prog W 0 (fun _ => true) true fuel 63 [v] = some x) : ∃ L, ArgStrs W v L := by
  rcases Go.Deep.open_slice Tryd.underlying63 h with ⟨hcs, _⟩ | ⟨A, l, c, m, n, D, Pl, hcs, _, hl, hm, hmm, _, hx⟩
  · simp only [List.cons.injEq, and_true] at hcs
    subst hcs
    exact ⟨[], _, _, rfl, Nat.zero_le _, Nat.zero_le _, fun s hs => (by cases hs), .inl rfl⟩
  · simp only [List.cons.injEq, and_true] at hcs
    subst hcs
    have hce : Tryd.prog.cellsOf 9 = 1 := by kernel_rfl
    simp only [if_true] at hmm
    rw [hce] at hx
    have each : ∀ i, i < l → ∃ s : List UInt8, W.cell? (A.add i) = some (.string (strOf s)) ∧ s.length ≤ maxLen := by
      intro i hi
      obtain ⟨cs, h1, h2⟩ := hx i (by omega)
      obtain ⟨_, hlen, hcell⟩ := World.cells?_some h1
      obtain ⟨s, e, _, hw⟩ := DataW.trod_string Tryd.underlying9 h2
      subst e
      have hc0 := hcell 0 (by decide)
      refine ⟨s.data.toList, ?_, Nat.le_trans (Nat.le_of_eq Array.length_toList) hw⟩
      rw [strOf_data]
      simpa [Addr.add] using hc0
    obtain ⟨L, hL, hq⟩ := list_of l each
    subst hL
    refine ⟨L, _, _, rfl, by omega, hm, fun s hs => ?_, ?_⟩
    · obtain ⟨j, hj, rfl⟩ := List.getElem_of_mem hs
      exact (hq j hj).2
    · by_cases h0 : L = []
      · exact .inl h0
      right
      have hpos : 0 < L.length := List.length_pos_iff.2 h0
      obtain ⟨b, off, spot⟩ := A
      have hc0 := (hq 0 hpos).1
      have hspot : spot = none := by simpa [Addr.add] using World.cell?_spot hc0
      subst hspot
      refine ⟨b, off, rfl, ?_, fun i hi => ?_⟩
      · have := World.block_lt_of_cell? W _ hc0
        simpa [Addr.add] using this
      · have := (hq i hi).1
        rwa [add0] at this
set_option maxRecDepth 100000 in
theorem agg_of {v : Value} {a b c : Value} (hc : v.cells.toList = [a, b, c]) : v = .agg #[a, b, c] := by
  unfold Value.cells at hc
  split at hc
  · rename_i cs
    obtain ⟨l⟩ := cs
    rw [show l = [a, b, c] from hc]
  · simp at hc
end Go.Proofs.YtdphpfffofeklaaDoor.L
