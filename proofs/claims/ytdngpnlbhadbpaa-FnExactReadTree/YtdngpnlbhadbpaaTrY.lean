import Derived.Test.YtdngpnlbhadbpaaTrU
import Derived.WalkSmall
import Derived.Laws.OwnMore
import Derived.RangeFuncBox
namespace Go.Proofs.Ytdngpnlbhadbpaa
open Go.ChangeShapes Go.WideShapes Go.ChangeAt Go.RowKit
theorem Try.info_int : (Try.prog.info? 3).map (fun i => (i.zero, i.size, i.bytes)) = some (some (.int .i64 0), 1, 8) := by kernel_rfl
theorem own_below {w w' : World} {base : Nat} {e : TypeId} {v : Value} {n : Nat} {xs : List Value} (h : w.ownsRow base e 1 v n xs) (hb : Below w.heap.size w w') : w'.ownsRow base e 1 v n xs :=
  h.kept (row := none) ⟨hb.os, hb.tape, hb.output, hb.size, fun k hk _ => hb.block k hk⟩ (by cases v.ownBlock <;> simp)
/-- A row of nodes in memory, from the block's beginning. -/
def NodesAt (w : World) (b : Nat) (ns : List (Nd × Int)) : Prop :=
  ∀ i (h : i < ns.length), (w.cell? ⟨b, i * 4, none⟩ = some (.int .i64 ns[i].1.kind) ∧ w.cell? ⟨b, i * 4 + 1, none⟩ = some (.string ns[i].1.text) ∧ w.cell? ⟨b, i * 4 + 2, none⟩ = some (.int .i64 ns[i].1.kids) ∧ w.cell? ⟨b, i * 4 + 3, none⟩ = some (.int .i64 ns[i].2)) ∧ ns[i].1.text.size ≤ 1048576 ∧ ns[i].1.kids ≤ 9223372036854775807
theorem fitF_cons {n : Nd} {r : List Nd} {z : Nat} {l : List Int} : fitF (n :: r) z l = if 20000 < z + n.text.size ∨ nodeOk n = false ∨ (n.kind = 1 ∧ l.length = 200) then false else fitF r (z + n.text.size) (stepL n l) := rfl
theorem drop_nds {ns : List (Nd × Int)} {j : Nat} (h : j < ns.length) : (ns.map Prod.fst).drop j = ns[j].1 :: (ns.map Prod.fst).drop (j + 1) := by
  rw [List.drop_eq_getElem_cons (by simpa using h)]; simp
/-- A row of lists that are open, in memory: the innermost last. -/
def ints (L : List Int) : List Value := L.reverse.map (.int .i64)
theorem ints_len (L : List Int) : (ints L).length = L.length := by simp [ints]
theorem ints_cons (a : Int) (L : List Int) : ints (a :: L) = ints L ++ [.int .i64 a] := by simp [ints]
theorem ints_set (a b : Int) (L : List Int) : (ints (a :: L)).set L.length (.int .i64 b) = ints (b :: L) := by
  rw [ints_cons, ints_cons, List.set_append_right _ _ (by rw [ints_len]; exact Nat.le_refl _), ints_len]; simp
theorem ints_at (a : Int) (L : List Int) : (ints (a :: L))[L.length]? = some (.int .i64 a) := by
  rw [ints_cons, List.getElem?_append_right (by rw [ints_len]; exact Nat.le_refl _), ints_len]; simp
def lenV : Value → Nat | .slice _ n _ => n | _ => 0
theorem own_shape {w : World} {base : Nat} {e : TypeId} {size : Nat} {v : Value} {n : Nat} {xs : List Value} (h : w.ownsRow base e size v n xs) : ∃ a c, v = .slice a n c := by
  rcases h.2 with ⟨rfl, rfl⟩ | ⟨g, cap, _, rfl, _⟩
  · exact ⟨_, _, rfl⟩
  · exact ⟨_, _, rfl⟩
theorem own_cap {w : World} {base : Nat} {e : TypeId} {size : Nat} {g n cap : Nat} {xs : List Value} (h : w.ownsRow base e size (.slice (some ⟨g, 0, none⟩) n cap) n xs) : n ≤ cap ∧ cap ≤ maxLen := by
  rcases h.2 with ⟨h0, _⟩ | ⟨g', cap', cur, hv, _, _, hn, hc, _, _⟩
  · cases h0
  · cases hv; exact ⟨hn, hc⟩
theorem nodeOk_split {n : Nd} (h : nodeOk n = true) : 0 ≤ n.kids ∧ (n.kind = 1 ∨ n.kids = 0) ∧ wordOk n.kind n.t = true := by
  simp only [nodeOk, Bool.and_eq_true, Bool.or_eq_true, decide_eq_true_eq] at h
  exact ⟨h.1.1, h.1.2, h.2⟩
theorem nodeOk_word {n : Nd} (h : wordOk n.kind n.t = false) : nodeOk n = false := by simp [nodeOk, h]
theorem nodeOk_neg {n : Nd} (h : n.kids < 0) : nodeOk n = false := by
  have : decide (0 ≤ n.kids) = false := by rw [decide_eq_false_iff_not]; omega
  simp [nodeOk, this]
theorem nodeOk_leaf {n : Nd} (h : n.kind ≠ 1) (h2 : n.kids ≠ 0) : nodeOk n = false := by simp [nodeOk, h, h2]
end Go.Proofs.Ytdngpnlbhadbpaa
