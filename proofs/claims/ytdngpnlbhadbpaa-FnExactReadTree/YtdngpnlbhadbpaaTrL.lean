import Derived.Test.YtdngpnlbhadbpaaTrYa
import Derived.Deep.RegionHeld3
import Derived.Deep.RegionLaw
import Derived.Deep.AppendLies
import Derived.Lib.OthersKept
namespace Go.Proofs.Ytdngpnlbhadbpaa
open Go.ChangeShapes Go.WideShapes Go.ChangeAt Go.RowKit
theorem heap_set1 {W : World} {b : Nat} {u v : Value} {ty : TypeId} (h : W.heap[b]? = some (.cells #[u] ty (0, 0))) : (W.setCell ⟨b, 0, none⟩ v).heap[b]? = some (.cells #[v] ty (0, 0)) := by
  obtain ⟨hlt, hk⟩ := Array.getElem?_eq_some_iff.1 h
  show (W.heap.modify b _)[b]? = _
  rw [Array.getElem?_eq_getElem (by rw [Array.size_modify]; exact hlt), Array.getElem_modify_self, hk]
  simp
theorem own_other {W W' : World} {base : Nat} {e : TypeId} {v : Value} {n : Nat} {xs : List Value} (h : W.ownsRow base e 1 v n xs) (hk : ∀ g, v.ownBlock = some g → W'.heap[g]? = W.heap[g]?) : W'.ownsRow base e 1 v n xs := by
  refine ⟨h.1, ?_⟩
  rcases h.2 with h0 | ⟨g, cap, cur, rfl, h1, h2, h3⟩
  · exact .inl h0
  · exact .inr ⟨g, cap, cur, rfl, h1, (hk g rfl).trans h2, h3⟩
theorem own_set {W : World} {base b : Nat} {e : TypeId} {v : Value} {n : Nat} {xs : List Value} (h : W.ownsRow base e 1 v n xs) (hb : v.ownBlock ≠ some b) (i : Nat) (u : Value) : (W.setCell ⟨b, i, none⟩ u).ownsRow base e 1 v n xs :=
  own_other h fun g hg => Below.heap_setCell W _ u g (fun e => hb (by rw [hg]; exact congrArg some e))
theorem own_cut {W : World} {base : Nat} {e : TypeId} {p : Option Addr} {n c : Nat} {xs ys : List Value} (h : W.ownsRow base e 1 (.slice p n c) n (xs ++ ys)) : W.ownsRow base e 1 (.slice p xs.length c) xs.length xs := by
  obtain ⟨h0, h1⟩ := h
  rw [List.length_append] at h0
  refine ⟨by omega, ?_⟩
  rcases h1 with ⟨hv, hn⟩ | ⟨g, cap, cur, hv, h2, h3, h4, h5, h6, h7⟩
  · subst hn
    have e : xs.length = 0 := by omega
    cases hv
    exact .inl ⟨by rw [e], e⟩
  · cases hv
    refine .inr ⟨g, c, cur, rfl, h2, h3, by omega, h5, h6, ?_⟩
    have h8 := congrArg (List.take xs.length) h7
    rw [List.take_take, List.take_append_of_le_length (Nat.le_refl _), List.take_length, Nat.min_eq_left (by omega)] at h8
    rw [Nat.mul_one]
    exact h8
theorem ret_i {k : IntKind} {a b : Int} (h : a = b) : Ending.returned (.int k a) = .returned (.int k b) := by rw [h]
theorem ints_app (P M : List Int) : ints (P ++ M) = ints M ++ ints P := by simp [ints]
theorem kept_set {b : Nat} {a W : World} (h : Lib.OthersKept 3 (some b) a W) {g : Nat} {cur : Array Value} {fz : Nat × Nat} (hg : W.heap[g]? = some (.cells cur 3 fz)) (i : Nat) (u : Value) : Lib.OthersKept 3 (some b) a (W.setCell ⟨g, i, none⟩ u) := by
  intro k o hk hkb ho
  have h1 := h k o hk hkb ho
  have hkg : k ≠ g := by
    rintro rfl
    rw [hg] at h1
    exact ho _ _ (Option.some.inj h1).symm
  rw [Below.heap_setCell W _ u k hkg]; exact h1
theorem own_row {W : World} {base g n c : Nat} {xs : List Value} {e : TypeId} (h : W.ownsRow base e 1 (.slice (some ⟨g, 0, none⟩) n c) n xs) : ∃ cur, W.heap[g]? = some (.cells cur e (0, 0)) := by
  rcases h.2 with ⟨hv, _⟩ | ⟨g', cap, cur, hv, _, h3, _⟩
  · cases hv
  · cases hv; exact ⟨cur, h3⟩
theorem own_kind {W : World} {base : Nat} {v : Value} {n : Nat} {xs : List Value} {e : TypeId} (h : W.ownsRow base e 1 v n xs) : ∀ g, v.ownBlock = some g → ∃ c fz, W.heap[g]? = some (.cells c e fz) := by
  intro g hg
  rcases h.2 with ⟨rfl, _⟩ | ⟨g', cap, cur, rfl, _, h3, _⟩
  · cases hg
  · cases hg; exact ⟨cur, _, h3⟩
end Go.Proofs.Ytdngpnlbhadbpaa
