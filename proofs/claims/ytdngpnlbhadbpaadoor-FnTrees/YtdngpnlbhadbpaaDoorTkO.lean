import Derived.Test.YtdngpnlbhadbpaaDoorTkS
import Derived.Test.YtdngpnlbhadbpaaDoorTrLw
namespace Go.Proofs.YtdngpnlbhadbpaaDoor
open Go.ChangeShapes Go.WideShapes Go.ChangeAt Go.RowKit
def nodeC (x : Nd × Int) : List Value := [.int .i64 x.1.kind, .string x.1.text, .int .i64 x.1.kids, .int .i64 x.2]
def cellsN : List (Nd × Int) → List Value
  | [] => []
  | x :: r => nodeC x ++ cellsN r
def intsN (l : List Nat) : List Value := ints (l.map Int.ofNat)
theorem intsN_len (l : List Nat) : (intsN l).length = l.length := by unfold intsN; rw [ints_len]; simp
theorem intsN_cons (a : Nat) (l : List Nat) : intsN (a :: l) = intsN l ++ [.int .i64 (a : Nat)] := by unfold intsN; rw [List.map_cons, ints_cons]; rfl
theorem cellsN_len (ns : List (Nd × Int)) : (cellsN ns).length = ns.length * 4 := by
  induction ns with
  | nil => rfl
  | cons x r ih => simp only [cellsN, List.length_append, ih, nodeC, List.length_cons, List.length_nil]; omega
theorem cellsN_app (a b : List (Nd × Int)) : cellsN (a ++ b) = cellsN a ++ cellsN b := by
  induction a with
  | nil => rfl
  | cons x r ih => simp only [List.cons_append, cellsN, ih, List.append_assoc]
theorem cellsN_snoc (a : List (Nd × Int)) (x : Nd × Int) : cellsN (a ++ [x]) = cellsN a ++ nodeC x := by rw [cellsN_app]; simp [cellsN]
theorem cellsN_at : ∀ (ns : List (Nd × Int)) (i d : Nat) (h : i < ns.length) (_ : d < 4), (cellsN ns)[i * 4 + d]? = (nodeC ns[i])[d]?
  | [], i, d, h, _ => by simp at h
  | x :: r, 0, d, _, hd => by
    show (nodeC x ++ cellsN r)[0 * 4 + d]? = _
    rw [List.getElem?_append_left (by simp [nodeC]; omega), Nat.zero_mul, Nat.zero_add]; rfl
  | x :: r, i + 1, d, h, hd => by
    show (nodeC x ++ cellsN r)[(i + 1) * 4 + d]? = _
    rw [List.getElem?_append_right (by simp [nodeC]; omega)]
    have : (i + 1) * 4 + d - (nodeC x).length = i * 4 + d := by simp [nodeC]; omega
    rw [this, cellsN_at r i d (by simpa using h) hd]; rfl
theorem cellsN_inc : ∀ (ns : List (Nd × Int)) (j : Nat) (h : j < ns.length), (cellsN ns).set (j * 4 + 2) (.int .i64 (ns[j].1.kids + 1)) = cellsN (ns.modify j incN)
  | [], j, h => by simp at h
  | x :: r, 0, _ => by simp [cellsN, nodeC, incN, List.modify]
  | x :: r, j + 1, h => by
    show (nodeC x ++ cellsN r).set ((j + 1) * 4 + 2) _ = cellsN (x :: r.modify j incN)
    rw [List.set_append_right _ _ (by simp [nodeC]; omega)]
    have : (j + 1) * 4 + 2 - (nodeC x).length = j * 4 + 2 := by simp [nodeC]; omega
    rw [this]
    have hj : j < r.length := by simpa using h
    show nodeC x ++ (cellsN r).set (j * 4 + 2) (.int .i64 (r[j].1.kids + 1)) = _
    rw [cellsN_inc r j hj]; rfl
theorem own_other' {W W' : World} {base : Nat} {e : TypeId} {sz : Nat} {v : Value} {n : Nat} {xs : List Value} (h : W.ownsRow base e sz v n xs) (hk : ∀ g, v.ownBlock = some g → W'.heap[g]? = W.heap[g]?) : W'.ownsRow base e sz v n xs := by
  refine ⟨h.1, ?_⟩
  rcases h.2 with h0 | ⟨g, cap, cur, rfl, h1, h2, h3⟩
  · exact .inl h0
  · exact .inr ⟨g, cap, cur, rfl, h1, (hk g rfl).trans h2, h3⟩
theorem own_kind' {W : World} {base : Nat} {v : Value} {n sz : Nat} {xs : List Value} {e : TypeId} (h : W.ownsRow base e sz v n xs) : ∀ g, v.ownBlock = some g → ∃ c fz, W.heap[g]? = some (.cells c e fz) := by
  intro g hg
  rcases h.2 with ⟨rfl, _⟩ | ⟨g', cap, cur, rfl, _, h3, _⟩
  · cases hg
  · cases hg; exact ⟨cur, _, h3⟩
/-- Of two rows of different kinds one grows: the other is as it was. -/
theorem own_apart' {W W' : World} {base base2 : Nat} {e1 e2 : TypeId} {s1 s2 : Nat} {v1 v2 : Value} {n1 n2 : Nat} {xs1 xs2 : List Value} (h1 : W.ownsRow base e1 s1 v1 n1 xs1) (h2 : W.ownsRow base2 e2 s2 v2 n2 xs2) (hne : e1 ≠ e2) (hg : W.grownBy W' v1.ownBlock) : W'.ownsRow base2 e2 s2 v2 n2 xs2 := by
  refine own_other' h2 fun g hg2 => hg.block g (h2.lt g hg2).2 ?_
  intro e
  obtain ⟨c1, f1, k1⟩ := own_kind' h1 g e.symm
  obtain ⟨c2, f2, k2⟩ := own_kind' h2 g hg2
  rw [k1] at k2
  cases k2
  exact hne rfl
theorem own_cut' {W : World} {base : Nat} {e : TypeId} {p : Option Addr} {c j : Nat} {r : List Nat} (h : W.ownsRow base e 1 (.slice p (r.length + 1) c) (r.length + 1) (intsN (j :: r))) : W.ownsRow base e 1 (.slice p r.length c) r.length (intsN r) := by
  rw [intsN_cons] at h
  have h0 := h
  have := own_cut (xs := intsN r) (ys := [.int .i64 (j : Nat)]) h0
  rw [intsN_len] at this
  exact this
theorem info_node : ∃ i : TypeInfo, Tryd.prog.info? 31 = some i ∧ i.zero = some (.agg #[.int .i64 0, .string ⟨#[]⟩, .int .i64 0, .int .i64 0]) ∧ i.size = 4 ∧ i.bytes = 40 := ⟨_, rfl, rfl, rfl, rfl⟩
/-- A node behind a row of nodes. -/
theorem wpList_appN {ops : Array Oper} {rest : List Oper} {o : Oper} {a : Act} {Q : Exit → Act → World → Prop} {W : World} {x : Nd × Int} {base n : Nat} {v : Value} {xs : List Value} (hgd : o.guard = none) (s y : Operand)
    (ho : o.op = .call { callee := .builtin .append, args := #[s, y], argTypes := #[23, 23] }) (hs : a.eval s = v) (hown : W.ownsRow base 31 4 v n xs)
    (H : Nat) (hx : a.eval y = .slice (some ⟨H, 0, none⟩) 1 1) (hH : W.heap.size = H) (hn : n ≤ 1000000000) (hbase : base ≤ W.heap.size)
    (h : ∀ g cap W', W'.ownsRow base 31 4 (.slice (some ⟨g, 0, none⟩) (n + 1) cap) (n + 1) (xs ++ nodeC x) → (W.alloc (.cells #[.int .i64 x.1.kind, .string x.1.text, .int .i64 x.1.kids, .int .i64 x.2] 31)).grownBy W' v.ownBlock → wpList Tryd.prog ops Q rest (a.put o.dst (.slice (some ⟨g, 0, none⟩) (n + 1) cap)) W') :
    wpList Tryd.prog ops Q (o :: rest) a (W.alloc (.cells #[.int .i64 x.1.kind, .string x.1.text, .int .i64 x.1.kids, .int .i64 x.2] 31)) := by
  subst hH
  obtain ⟨i0, hinf, hz0, hz1, hz2⟩ := info_node
  refine wpList_append_lies _ hgd s y 23 ho base 31 i0 (.agg #[.int .i64 0, .string ⟨#[]⟩, .int .i64 0, .int .i64 0]) 4 40 Tryd.underlying23 hinf hz0 hz1 hz2 rfl (by decide) v n xs hs (hown.alloc _) ⟨W.heap.size, 0, none⟩ 1 1 (nodeC x) hx rfl
    (World.news_of_block (cs := #[.int .i64 x.1.kind, .string x.1.text, .int .i64 x.1.kids, .int .i64 x.2]) (t := 31) (fr := (0, 0)) (heap_alloc_new W _)) (by simp [nodeC, Value.oneCell']) (by decide) (by unfold maxLen; omega) (by omega) (by simp; omega) _ rfl ?_
  intro g cap W' h1 h2 _ _
  exact h g cap W' h1 h2
end Go.Proofs.YtdngpnlbhadbpaaDoor
