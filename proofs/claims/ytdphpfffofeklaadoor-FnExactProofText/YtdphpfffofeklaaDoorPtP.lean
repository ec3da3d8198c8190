import Derived.Test.YtdphpfffofeklaaDoorPtSh
import Derived.Deep.AppendLies
import Derived.Deep.RegionLaw
import Derived.Deep.RegionHeld3
namespace Go.Proofs.YtdphpfffofeklaaDoor.P
open Go.ChangeShapes Go.WideShapes Go.ChangeAt Go.RowKit
open T (Nd)
open L (strOf strOf_toList strOf_size Tn hidG below_alloc Bx bx_new StrsAt TreeAt strsC strs_at row_below own_lower own_other' own_base up_alloc)
set_option maxHeartbeats 400000 in
theorem l12Signed_any (n : Int) (w : World) (h0 : -9223372036854775808 ≤ n) (h1 : n ≤ 9223372036854775807) :
    Calls Tryd.prog 23 #[.int .i64 n] w fun e w' => e = .returned (.string (strOf (Lib.itoa n))) ∧ Below w.heap.size w w' := by
  go_enter Tryd.func23, Tryd.ntmps23
  go_wp2_with fail
  refine (l1Small_any n _ h0 h1).mono ?_
  rintro e w1 ⟨z, rfl, ⟨neg, t, hz, hs, hl⟩, hb1⟩
  have HZ := hidG hz
  have HS := hidG hs
  have HB1 := hidG hb1
  clear hz hs hb1
  go_wp2_with fail
  refine (l1Text_any _ z neg t _ HZ.out HB1.out.size (by omega)).mono ?_
  rintro e w2 ⟨rfl, hb2⟩
  have HB2 : Hid (Below w.heap.size w w2) := HB1.out.trans (hb2.mono HB1.out.size)
  rw [full_itoa HZ.out.1 HZ.out.2.1 HS.out]
  clear hb2
  go_wp2_with fail
  go_ret
  exact ⟨rfl, HB2.out⟩
def nodeC (n : Nd) : List Value := [.int .i64 n.kind, .string n.text, .int .i64 n.kids, .int .i64 0]
def cellsN (ns : List Nd) : List Value := ns.flatMap nodeC
theorem cellsN_len (ns : List Nd) : (cellsN ns).length = ns.length * 4 := by
  unfold cellsN
  induction ns with
  | nil => rfl
  | cons n r ih => rw [List.flatMap_cons, List.length_append, ih, List.length_cons]; simp [nodeC]; omega
theorem cellsN_app (a b : List Nd) : cellsN (a ++ b) = cellsN a ++ cellsN b := by unfold cellsN; rw [List.flatMap_append]
theorem cellsN_one (n : Nd) : cellsN [n] = nodeC n := by simp [cellsN]
theorem info_node0 : (Tryd.prog.info? 67).map (fun i => (i.zero, i.size, i.bytes)) = some (some (.agg #[.int .i64 0, .string ⟨#[]⟩, .int .i64 0, .int .i64 0]), 4, 40) := by kernel_rfl
theorem info_node : ∃ i : TypeInfo, Tryd.prog.info? 67 = some i ∧ i.zero = some (.agg #[.int .i64 0, .string ⟨#[]⟩, .int .i64 0, .int .i64 0]) ∧ i.size = 4 ∧ i.bytes = 40 := info_parts info_node0
/-- A node behind a row of nodes. -/
theorem wpList_appN {ops : Array Oper} {rest : List Oper} {o : Oper} {a : Act} {Q : Exit → Act → World → Prop} {W : World} {x : Nd} {base n : Nat} {v : Value} {xs : List Value} (hgd : o.guard = none) (s y : Operand)
    (ho : o.op = .call { callee := .builtin .append, args := #[s, y], argTypes := #[35, 35] }) (hs : a.eval s = v) (hown : W.ownsRow base 67 4 v n xs)
    (H : Nat) (hx : a.eval y = .slice (some ⟨H, 0, none⟩) 1 1) (hH : W.heap.size = H) (hn : n ≤ 1000000000) (hbase : base ≤ W.heap.size)
    (h : ∀ g cap W', W'.ownsRow base 67 4 (.slice (some ⟨g, 0, none⟩) (n + 1) cap) (n + 1) (xs ++ nodeC x) → (W.alloc (.cells #[.int .i64 x.kind, .string x.text, .int .i64 x.kids, .int .i64 0] 67)).grownBy W' v.ownBlock → wpList Tryd.prog ops Q rest (a.put o.dst (.slice (some ⟨g, 0, none⟩) (n + 1) cap)) W') :
    wpList Tryd.prog ops Q (o :: rest) a (W.alloc (.cells #[.int .i64 x.kind, .string x.text, .int .i64 x.kids, .int .i64 0] 67)) := by
  subst hH
  obtain ⟨i0, hinf, hz0, hz1, hz2⟩ := info_node
  refine wpList_append_lies _ hgd s y 35 ho base 67 i0 (.agg #[.int .i64 0, .string ⟨#[]⟩, .int .i64 0, .int .i64 0]) 4 40 Tryd.underlying35 hinf hz0 hz1 hz2 rfl (by decide) v n xs hs (hown.alloc _) ⟨W.heap.size, 0, none⟩ 1 1 (nodeC x) hx rfl
    (World.news_of_block (cs := #[.int .i64 x.kind, .string x.text, .int .i64 x.kids, .int .i64 0]) (t := 67) (fr := (0, 0)) (heap_alloc_new W _)) (by simp [nodeC, Value.oneCell']) (by decide) (by unfold maxLen; omega) (by omega) (by simp; omega) _ rfl ?_
  intro g cap W' h1 h2 _ _
  exact h g cap W' h1 h2
/-- The specification's writer: its nodes, whether they are bad, so many bytes. -/
structure Ws (kb : Nat) (ns : List Nd) (bad : Bool) (sz : Nat) (W : World) : Prop where
  ex : ∃ v, Bx W kb [v, .bool bad, .int .i64 (sz : Nat)] ∧ W.ownsRow (kb + 1) 67 4 v ns.length (cellsN ns)
theorem Ws.below {kb : Nat} {ns : List Nd} {bad : Bool} {sz : Nat} {W W' : World} (h : Ws kb ns bad sz W) (hb : Below W.heap.size W W') : Ws kb ns bad sz W' := by
  obtain ⟨v, hx, ho⟩ := h.ex
  exact ⟨v, hx.below hx.lt hb, row_below ho hb⟩
theorem Ws.lt {kb : Nat} {ns : List Nd} {bad : Bool} {sz : Nat} {W : World} (h : Ws kb ns bad sz W) : kb < W.heap.size := by
  obtain ⟨v, hx, -⟩ := h.ex
  exact hx.lt
theorem below_grownN {N n base : Nat} {w W W' : World} {v : Value} {xs : List Value} {o : Obj} {e : TypeId} {z : Nat} (hB : Below N w W) (hown : W.ownsRow base e z v n xs) (hb : N ≤ base) (hg : (W.alloc o).grownBy W' v.ownBlock) (h : N ≤ W.heap.size) : Below N w W' :=
  ⟨hg.os.trans hB.os, hg.tape.trans hB.tape, hg.output.trans hB.output, by
    have h1 := hg.size
    have h2 := hB.size
    rw [World.size_alloc] at h1
    omega, fun k hk => by
    rw [hg.block k (by rw [World.size_alloc]; omega) (fun e => by have := own_base hown k e.symm; omega), (below_alloc W o).block k (by omega), hB.block k hk]⟩
/-- What the writer's work leaves: all below its box; above it, whatever is no row of nodes. -/
structure Fr (kb : Nat) (w w' : World) : Prop where
  bel : Below kb w w'
  keep : ∀ (k : Nat) (o : Obj), w.heap[k]? = some o → k ≠ kb → (∀ c fz, o ≠ Obj.cells c 67 fz) → w'.heap[k]? = some o
theorem Fr.refl (kb : Nat) (w : World) : Fr kb w w := ⟨Below.refl _ _, fun _ _ h _ _ => h⟩
theorem Fr.trans {kb : Nat} {w w1 w2 : World} (h : Fr kb w w1) (h' : Fr kb w1 w2) : Fr kb w w2 := ⟨h.bel.trans h'.bel, fun k o h1 h2 h3 => h'.keep k o (h.keep k o h1 h2 h3) h2 h3⟩
theorem Fr.of {kb : Nat} {w w' : World} (h : Below w.heap.size w w') (hk : kb ≤ w.heap.size) : Fr kb w w' := ⟨h.mono hk, fun k _ h1 _ _ => (h.block k (Array.getElem?_eq_some_iff.1 h1).1).trans h1⟩
theorem Fr.set {kb i : Nat} {w w' : World} (h : Fr kb w w') (v : Value) : Fr kb w (w'.setCell ⟨kb, i, none⟩ v) := ⟨h.bel.setCell (p := ⟨kb, i, none⟩) (Nat.le_refl _) _, fun k o h1 h2 h3 => by rw [Below.heap_setCell _ ⟨kb, i, none⟩ _ _ h2]; exact h.keep k o h1 h2 h3⟩
theorem fr_grown {kb n : Nat} {W W' : World} {v : Value} {xs : List Value} {o : Obj} {z : Nat} (hown : W.ownsRow (kb + 1) 67 z v n xs) (hg : (W.alloc o).grownBy W' v.ownBlock) (hk : kb ≤ W.heap.size) : Fr kb W W' :=
  ⟨below_grownN (Below.refl _ _) hown (Nat.le_succ _) hg hk, fun k ob h1 _ h3 => by
    have hlt := (Array.getElem?_eq_some_iff.1 h1).1
    rw [hg.block k (by rw [World.size_alloc]; omega) (fun e => ?_), (below_alloc W o).block k hlt]
    · exact h1
    · rcases hown.2 with ⟨rfl, _⟩ | ⟨g, cap, cur, rfl, _, hh, _⟩
      · cases e
      · have : k = g := by simpa [Value.ownBlock] using e
        subst this
        rw [hh] at h1
        cases h1
        exact h3 _ _ rfl⟩
theorem bx_grown {kb n : Nat} {W W' : World} {v : Value} {xs : List Value} {o : Obj} {e : TypeId} {z : Nat} {l : List Value} (h : Bx W kb l) (hown : W.ownsRow (kb + 1) e z v n xs) (hg : (W.alloc o).grownBy W' v.ownBlock) : Bx W' kb l := by
  have hlt := h.lt
  obtain ⟨ty, e⟩ := h
  exact ⟨ty, by rw [hg.block kb (by rw [World.size_alloc]; omega) (fun e => by have := own_base hown kb e.symm; omega), (below_alloc W o).block kb hlt]; exact e⟩
/-- A node was put behind, and the bytes counted. -/
theorem ws_put {kb : Nat} {ns : List Nd} {x : Nd} {bad : Bool} {sz sz' : Nat} {w W W' : World} {v : Value} {g cap : Nat} (hX : Bx W kb [v, .bool bad, .int .i64 (sz : Nat)]) (hO : W.ownsRow (kb + 1) 67 4 v ns.length (cellsN ns)) (hB : Fr kb w W)
    (hown : W'.ownsRow (kb + 1) 67 4 (.slice (some ⟨g, 0, none⟩) (ns.length + 1) cap) (ns.length + 1) (cellsN ns ++ nodeC x)) {o : Obj} (hg : (W.alloc o).grownBy W' v.ownBlock) :
    Bx W' kb [v, .bool bad, .int .i64 (sz : Nat)] ∧ Ws kb (ns ++ [x]) bad sz' ((W'.setCell ⟨kb, 0, none⟩ (.slice (some ⟨g, 0, none⟩) (ns.length + 1) cap)).setCell ⟨kb, 2, none⟩ (.int .i64 (sz' : Nat))) ∧ Fr kb w ((W'.setCell ⟨kb, 0, none⟩ (.slice (some ⟨g, 0, none⟩) (ns.length + 1) cap)).setCell ⟨kb, 2, none⟩ (.int .i64 (sz' : Nat))) := by
  have h1 := bx_grown hX hO hg
  refine ⟨h1, ⟨_, (h1.set 0 _).set 2 _, ?_⟩, ?_⟩
  · rw [List.length_append, cellsN_app, cellsN_one]
    exact ownsRow_setCell_below (ownsRow_setCell_below hown (a := ⟨kb, 0, none⟩) (Nat.lt_succ_self _) _) (a := ⟨kb, 2, none⟩) (Nat.lt_succ_self _) _
  · exact ((hB.trans (fr_grown hO hg (Nat.le_of_lt hX.lt))).set _).set _
set_option maxRecDepth 100000 in
set_option maxHeartbeats 4000000 in
theorem list_any (kb : Nat) (k : Nat) (ns : List Nd) (bad : Bool) (sz : Nat) (w : World) (h : Ws kb ns bad sz w) (hn : ns.length ≤ 900000000) (hs : sz ≤ 900000000) :
    Calls Tryd.prog 20 #[.pointer (some ⟨kb, 0, none⟩), .int .i64 (k : Nat)] w fun e w' => e = .returned (.tuple #[]) ∧ Ws kb (ns ++ [listN k]) bad (sz + 2) w' ∧ Fr kb w w' := by
  obtain ⟨v, hx, ho⟩ := h.ex
  have HX := hidG hx
  have HO := hidG ho
  have HLT := hidG hx.lt
  obtain ⟨c0, c1, c2⟩ := hx.c3
  have f0 := hx.frozen 0
  have f2 := hx.frozen 2
  obtain ⟨pv, cv, rfl⟩ : ∃ p c, v = .slice p ns.length c := by
    rcases ho.2 with ⟨rfl, h0⟩ | ⟨g, cap, _, rfl, _⟩
    · exact ⟨none, 0, by rw [h0]⟩
    · exact ⟨_, _, rfl⟩
  clear hx ho h
  go_enter Tryd.func20, Tryd.ntmps20
  go_wp2_with (at_builtin; refine wpList_appN (x := listN k) (n := ns.length) (base := kb + 1) (xs := cellsN ns) rfl _ _ rfl rfl ?own _ rfl ?hH ?hn ?hb ?_)
  case own => exact HO.out
  case hH => rfl
  case hn => omega
  case hb => exact HLT.out
  intro g5 c5 w5 hown5 hgr5
  obtain ⟨h1, h2, h3⟩ := ws_put (sz' := sz + 2) HX.out HO.out (Fr.refl _ _) hown5 hgr5
  have e5 : ((sz + 2 : Nat) : Int) = (sz : Int) + 2 := by omega
  rw [e5] at h2 h3
  have HP := hidG h2
  have HB := hidG h3
  obtain ⟨d0, d1, d2⟩ := h1.c3
  have g0 := h1.frozen 0
  have g2 := h1.frozen 2
  have q2 := (h1.set 0 (.slice (some ⟨g5, 0, none⟩) (ns.length + 1) c5)).cell 2
  have r2 := (h1.set 0 (.slice (some ⟨g5, 0, none⟩) (ns.length + 1) c5)).frozen 2
  simp only [List.set_cons_zero, List.getElem?_cons_zero, List.getElem?_cons_succ] at q2
  clear hown5 hgr5 h1 h2 h3 c0 c1 c2 f0 f2 e5
  go_wp2_with fail
  exact bodyPost_end (results_none rfl _ _ _) rfl ⟨rfl, HP.out, HB.out⟩
set_option maxRecDepth 100000 in
set_option maxHeartbeats 4000000 in
theorem leaf_any (kb : Nat) (kd : Int) (t : ByteArray) (ns : List Nd) (bad : Bool) (sz : Nat) (w : World) (h : Ws kb ns bad sz w) (hn : ns.length ≤ 900000000) (hs : sz ≤ 900000000) (ht : t.size ≤ 10000000) :
    Calls Tryd.prog 21 #[.pointer (some ⟨kb, 0, none⟩), .int .i64 kd, .string t] w fun e w' => e = .returned (.tuple #[]) ∧ Ws kb (ns ++ [(⟨kd, t, 0⟩ : Nd)]) bad (sz + t.size) w' ∧ Fr kb w w' := by
  obtain ⟨v, hx, ho⟩ := h.ex
  have HX := hidG hx
  have HO := hidG ho
  have HLT := hidG hx.lt
  obtain ⟨c0, c1, c2⟩ := hx.c3
  have f0 := hx.frozen 0
  have f2 := hx.frozen 2
  obtain ⟨pv, cv, rfl⟩ : ∃ p c, v = .slice p ns.length c := by
    rcases ho.2 with ⟨rfl, h0⟩ | ⟨g, cap, _, rfl, _⟩
    · exact ⟨none, 0, by rw [h0]⟩
    · exact ⟨_, _, rfl⟩
  clear hx ho h
  go_enter Tryd.func21, Tryd.ntmps21
  go_wp2_with (at_builtin; refine wpList_appN (x := (⟨kd, t, 0⟩ : Nd)) (n := ns.length) (base := kb + 1) (xs := cellsN ns) rfl _ _ rfl rfl ?own _ rfl ?hH ?hn ?hb ?_)
  case own => exact HO.out
  case hH => rfl
  case hn => omega
  case hb => exact HLT.out
  intro g5 c5 w5 hown5 hgr5
  obtain ⟨h1, h2, h3⟩ := ws_put (sz' := sz + t.size) HX.out HO.out (Fr.refl _ _) hown5 hgr5
  have e5 : ((sz + t.size : Nat) : Int) = (sz : Int) + (t.size : Int) := by omega
  rw [e5] at h2 h3
  have HP := hidG h2
  have HB := hidG h3
  obtain ⟨d0, d1, d2⟩ := h1.c3
  have g0 := h1.frozen 0
  have g2 := h1.frozen 2
  have q2 := (h1.set 0 (.slice (some ⟨g5, 0, none⟩) (ns.length + 1) c5)).cell 2
  have r2 := (h1.set 0 (.slice (some ⟨g5, 0, none⟩) (ns.length + 1) c5)).frozen 2
  simp only [List.set_cons_zero, List.getElem?_cons_zero, List.getElem?_cons_succ] at q2
  clear hown5 hgr5 h1 h2 h3 c0 c1 c2 f0 f2 e5
  go_wp2_with fail
  exact bodyPost_end (results_none rfl _ _ _) rfl ⟨rfl, HP.out, HB.out⟩
end Go.Proofs.YtdphpfffofeklaaDoor.P
