import Derived.Test.YtdngpnlbhadbpaaTrLa
import Derived.Test.YtdngpnlbhadbpaaTrRx
namespace Go.Proofs.Ytdngpnlbhadbpaa
open Go.ChangeShapes Go.WideShapes Go.ChangeAt Go.RowKit
/-- Where a row of nodes' text ends. -/
theorem last_row {nd : Nd} {L : List Int} {A : List UInt8} {i : Nat} (hA : ∃ p c, A = p ++ [c] ∧ (c = 40 ↔ nd.kind = 1)) (hi : closedL nd L = i) : ∃ p lb, A ++ List.replicate i 41 = p ++ [lb] ∧ (decide (nd.kind = 1) && decide (closedL nd L = 0)) = decide (lb = 40) := by
  rw [hi]
  cases i with
  | zero =>
    obtain ⟨p, c, h1, h2⟩ := hA
    refine ⟨p, c, by rw [h1]; simp, ?_⟩
    by_cases hk : nd.kind = 1
    · rw [decide_eq_true hk, h2.2 hk]; rfl
    · rw [decide_eq_false hk, decide_eq_false (fun e => hk (h2.1 e))]; rfl
  | succ i =>
    refine ⟨A ++ List.replicate i 41, 41, by rw [List.replicate_succ']; simp, ?_⟩
    rw [decide_eq_false (by omega : ¬ i + 1 = 0), Bool.and_false]; rfl
theorem tok_end {nd : Nd} (hk : nodeOk nd = true) : ∃ p c, tokT nd.kind nd.t = p ++ [c] ∧ (c = 40 ↔ nd.kind = 1) := by
  by_cases h1 : nd.kind = 1
  · rw [h1]; exact ⟨[], 40, rfl, by simp⟩
  · obtain ⟨p, c, h2, h3⟩ := tok_last hk h1
    exact ⟨p, c, h2, fun e => absurd e h3, fun e => absurd e h1⟩
theorem end_app {nd : Nd} {A T : List UInt8} (h : ∃ p c, T = p ++ [c] ∧ (c = 40 ↔ nd.kind = 1)) : ∃ p c, A ++ T = p ++ [c] ∧ (c = 40 ↔ nd.kind = 1) := by
  obtain ⟨p, c, h1, h2⟩ := h
  exact ⟨A ++ p, c, by rw [h1]; simp, h2⟩
theorem ne_box {W : World} {base nb : Nat} {e t : TypeId} {v : Value} {n : Nat} {xs : List Value} {cs : Array Value} {fz : Nat × Nat} (h : W.ownsRow base e 1 v n xs) (hb : W.heap[nb]? = some (.cells cs t fz)) (hne : e ≠ t) : some nb ≠ v.ownBlock := by
  intro e'
  obtain ⟨c, f, hc⟩ := own_kind h nb e'.symm
  rw [hb] at hc
  cases hc
  exact hne rfl
theorem box_app {W W' : World} {nb base : Nat} {o : Obj} {e t : TypeId} {v : Value} {n : Nat} {xs : List Value} {cs : Array Value} {fz : Nat × Nat} (hg : (W.alloc o).grownBy W' v.ownBlock) (hown : W.ownsRow base e 1 v n xs) (hbx : W.heap[nb]? = some (.cells cs t fz)) (hne : e ≠ t) : W'.heap[nb]? = some (.cells cs t fz) := by
  have hlt := (Array.getElem?_eq_some_iff.1 hbx).1
  have h0 : (W.alloc o).heap[nb]? = some (.cells cs t fz) := ((below_alloc W o).block nb hlt).trans hbx
  exact (hg.block nb (by simp; omega) (ne_box (hown.alloc o) h0 hne)).trans h0
theorem own_to {W : World} {base : Nat} {e : TypeId} {v : Value} {n m : Nat} {xs ys : List Value} (h : W.ownsRow base e 1 v n xs) (hx : xs = ys) (hm : ys.length = m) : W.ownsRow base e 1 v m ys := by
  subst hx
  have h1 := h.1
  have : n = m := by omega
  subst this
  exact h
theorem conv_any {base : Nat} {W : World} {v : Value} {l : List UInt8} (h : W.ownsRow base 5 1 v l.length (Lib.byteCells l)) :
    (convert 47 9 v).run Try.prog W = .ok (.string (strOf l)) W := by
  rcases l with _ | ⟨c, r⟩
  · have h' := h
    rcases h.2 with ⟨rfl, _⟩ | ⟨g, cap, cur, rfl, _⟩
    · show (convert 47 9 (.slice none 0 0)).run Try.prog W = .ok (.string (strOf [])) W
      kernel_rfl
    · refine run_convert_bytes_back (P := Try.prog) W 47 9 5 ⟨g, 0, none⟩ cap [] Try.underlying47 Try.underlying5 Try.underlying9 (fun j hj => absurd hj (by simp))
  · exact conv_cells h (by simp)
theorem byteCells_len {A : List UInt8} {n : Nat} {W : World} {base : Nat} {v : Value} (h : W.ownsRow base 5 1 v n (Lib.byteCells A)) : n = A.length := by
  have := h.1
  rw [Lib.byteCells_length] at this
  omega
end Go.Proofs.Ytdngpnlbhadbpaa
