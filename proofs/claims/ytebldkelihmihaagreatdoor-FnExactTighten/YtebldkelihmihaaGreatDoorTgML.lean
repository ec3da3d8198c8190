import Derived.Test.YtebldkelihmihaaGreatDoorTgK
import Derived.Test.YtebldkelihmihaaGreatDoorTgON
namespace Go.Proofs.YtebldkelihmihaaGreatDoor.L
open Go.ChangeShapes Go.WideShapes Go.ChangeAt Go.RowKit
theorem noInt_row {w : World} {g : Nat} {cur : Array Value} {e : TypeId} {fz : Nat × Nat} (h : w.heap[g]? = some (.cells cur e fz)) (hc : ∀ u ∈ cur.toList, ∀ x, u ≠ .int .u32 x) : NoInt w g := fun i x => by
  rw [cell_of_row w g i cur e fz h]
  intro hh
  exact hc _ (by rw [← Array.getElem?_toList] at hh; exact List.mem_of_getElem? hh) x rfl
theorem noInt_cells {w : World} {g : Nat} {cur : Array Value} {e : TypeId} {fz : Nat × Nat} (h : w.heap[g]? = some (.cells cur e fz)) (hn : NoInt w g) : ∀ u ∈ cur.toList, ∀ x, u ≠ .int .u32 x := fun u hu x hx => by
  obtain ⟨i, hi, rfl⟩ := List.getElem_of_mem hu
  refine hn i x ?_
  rw [cell_of_row w g i cur e fz h, ← Array.getElem?_toList, List.getElem?_eq_getElem hi, hx]
theorem zeroRow_no (n : Nat) : ∀ u ∈ (Builtin.zeroCells (Value.cells (.agg #[.slice none 0 0, .bool false, .int .i64 0, .bool false, .slice none 0 0, .int .i64 0, .bool false, .slice none 0 0])) n).toList, ∀ x, u ≠ .int .u32 x := by
  intro u hu x hx
  subst hx
  simp [Builtin.zeroCells, Value.cells] at hu
  obtain ⟨a, _, h⟩ := hu
  have h8 := Nat.mod_lt a (show 0 < 8 by decide)
  generalize a % 8 = k at h h8
  have hc : k = 0 ∨ k = 1 ∨ k = 2 ∨ k = 3 ∨ k = 4 ∨ k = 5 ∨ k = 6 ∨ k = 7 := by omega
  rcases hc with rfl | rfl | rfl | rfl | rfl | rfl | rfl | rfl <;> simp at h
theorem append_no {w w' : World} {base : Nat} {v : Value} {n g cap : Nat} {xs : List Value} (hown : w.ownsRow base 76 8 v n xs) (hno : ∀ g, v.ownBlock = some g → NoInt w g) (ty : TypeId) (a : Addr) (news : List Value) (hl : news.length = 1 * 8) (hnews : ∀ j u, news[j]? = some u → w.cell? (a.add j) = some u) (h1 : ∀ u ∈ news, u.oneCell' = true) (hnn : ∀ u ∈ news, ∀ x, u ≠ .int .u32 x) (hn : n ≤ 1000000000)
    (hr : (Builtin.append_ #[47, 47] ty #[v, .slice (some a) 1 1]).run Tryz.prog w = .ok (.slice (some ⟨g, 0, none⟩) (n + 1) cap) w') : NoInt w' g := by
  obtain ⟨i0, hinf, hz0, hz1, hz2⟩ := info_lr
  rcases hown.2 with ⟨rfl, rfl⟩ | ⟨g', cap', cur, rfl, hbg, hg, hnc, hcm, hcs, htake⟩
  · have h := run_append_nil (P := Tryz.prog) w 47 ty 76 i0 _ Tryz.underlying47 hinf hz0 a 1 1 news (by rw [hz1]; exact hl) hnews (by decide) (by decide) (by rw [hz2]; decide)
    rw [h] at hr
    simp only [Result.ok.injEq, Value.slice.injEq, Option.some.injEq, Addr.mk.injEq, and_true] at hr
    obtain ⟨⟨rfl, -⟩, rfl⟩ := hr
    refine noInt_row (heap_alloc_new w.drew _) ?_
    intro u hu x
    rw [Array.toList_append, List.mem_append] at hu
    rcases hu with hu | hu
    · exact hnn u (by simpa using hu) x
    · exact zeroRow_no _ u hu x
  · have hx : ∀ u ∈ xs, ∀ x, u ≠ .int .u32 x := fun u hu => noInt_cells hg (hno g' rfl) u (by rw [← htake] at hu; exact List.mem_of_mem_take hu)
    by_cases hroom : n + 1 ≤ cap'
    · have hfit : n * i0.size + news.length ≤ cur.size := by rw [hz1, hl, hcs]; omega
      have h := run_append_room (P := Tryz.prog) w 47 ty 76 i0 Tryz.underlying47 hinf g' n cap' cur hg a 1 1 news (by rw [hz1]; exact hl) hnews h1 hroom hfit
      rw [h] at hr
      simp only [Result.ok.injEq, Value.slice.injEq, Option.some.injEq, Addr.mk.injEq, and_true] at hr
      obtain ⟨⟨rfl, -⟩, rfl⟩ := hr
      refine noInt_row (setRow_heap w g' cur _ _ _ hg) ?_
      intro u hu x
      simp only [List.mem_append] at hu
      rcases hu with (hu | hu) | hu
      · exact noInt_cells hg (hno g' rfl) u (List.mem_of_mem_take hu) x
      · exact hnn u hu x
      · exact noInt_cells hg (hno g' rfl) u (List.mem_of_mem_drop hu) x
    · have holds : ∀ j u, xs[j]? = some u → w.cell? ((⟨g', 0, none⟩ : Addr).add j) = some u := hown.cells (g := g') rfl
      have h := run_append_grow (P := Tryz.prog) w 47 ty 76 i0 _ Tryz.underlying47 hinf hz0 ⟨g', 0, none⟩ n cap' xs (by rw [hz1]; exact hown.1) holds a 1 1 news (by rw [hz1]; exact hl) hnews (by omega) (by omega) (growslice_fits (by omega) (by rw [hz2]; omega))
      rw [h] at hr
      simp only [Result.ok.injEq, Value.slice.injEq, Option.some.injEq, Addr.mk.injEq, and_true] at hr
      obtain ⟨⟨rfl, -⟩, rfl⟩ := hr
      refine noInt_row (heap_alloc_new w.drew _) ?_
      intro u hu x
      simp only [Array.toList_append, List.mem_append] at hu
      rcases hu with (hu | hu) | hu
      · exact hx u (by simpa using hu) x
      · exact hnn u (by simpa using hu) x
      · exact zeroRow_no _ u hu x
structure GRow (base : Nat) (W : World) (v : Value) (G : List Nr) : Prop where
  ex : ∃ xs, W.ownsRow base 76 8 v G.length xs ∧ ∀ i (_ : i < G.length), Rz 0 W ((xs.drop (i * 8)).take 8) G[i]
  no : ∀ g, v.ownBlock = some g → NoInt W g
theorem GRow.nil (base : Nat) (W : World) : GRow base W (.slice none 0 0) [] := ⟨⟨[], World.ownsRow_nil _ _ _ _, fun _ hi => absurd hi (Nat.not_lt_zero _)⟩, fun _ h => by cases h⟩
theorem noInt_below {W W' : World} {g : Nat} (h : NoInt W g) (hg : g < W.heap.size) (hb : Below W.heap.size W W') : NoInt W' g := fun i x => by
  rw [hb.cell (p := ⟨g, i, none⟩) hg]
  exact h i x
theorem GRow.below {base : Nat} {W W' : World} {v : Value} {G : List Nr} (h : GRow base W v G) (hb : Below W.heap.size W W') : GRow base W' v G := by
  obtain ⟨xs, h1, h2⟩ := h.ex
  exact ⟨⟨xs, row_below h1 hb, fun i hi => (h2 i hi).below hb⟩, fun g hg => noInt_below (h.no g hg) (h1.lt g hg).2 hb⟩
theorem GRow.form {base : Nat} {W : World} {v : Value} {G : List Nr} (h : GRow base W v G) : ∃ p c, v = .slice p G.length c := by
  obtain ⟨xs, h1, _⟩ := h.ex
  obtain ⟨p, c, e, _⟩ := own_form h1
  exact ⟨p, c, e⟩
theorem qrow_type {B : Nat} {W : World} {v : Value} {Q : List (Int × Int)} (h : QRow B W v Q) {base : Nat} {v' : Value} {n : Nat} {xs : List Value} (h' : W.ownsRow base 76 8 v' n xs) {b : Nat} (hb : v'.ownBlock = some b) : v.ownBlock ≠ some b := by
  obtain ⟨ys, h1, _⟩ := h
  exact own_ne h' h1 (by decide) hb
theorem Rz.grown {W W' : World} {cs : List Value} {f : Nr} {base : Nat} {v : Value} {n : Nat} {xs : List Value} (h : Rz 0 W cs f) (hv : W.ownsRow base 76 8 v n xs) (hno : ∀ g, v.ownBlock = some g → NoInt W g) (hs : W.heap.size ≤ W'.heap.size) (hk : ∀ b, b < W.heap.size → v.ownBlock ≠ some b → W'.heap[b]? = W.heap[b]?) : Rz 0 W' cs f := by
  obtain ⟨va, c0, c1, c2, c3, c4, c5, e, h1, h2⟩ := h.ex
  cases hb : v.ownBlock with
  | none =>
    have hb2 : ∀ b, b < W.heap.size → W'.heap[b]? = W.heap[b]? := fun b hlt => hk b hlt (by rw [hb]; simp)
    have k : But W.heap.size W W' := ⟨hs, fun b hlt _ => hb2 b hlt, fun i x hx => by have := World.block_lt_of_cell? W _ hx; simp at this⟩
    refine ⟨va, c0, c1, c2, c3, c4, c5, e, h1.but k (fun e => ?_), h2.but k⟩
    have := (h1.lt e).2
    omega
  | some g =>
    have k : But g W W' := ⟨hs, fun b hlt hne => hk b hlt (by rw [hb]; simpa using fun e => hne e.symm), hno g hb⟩
    exact ⟨va, c0, c1, c2, c3, c4, c5, e, h1.but k (qrow_type h1 hv hb), h2.but k⟩
theorem wpList_appG {ops : Array Oper} {rest : List Oper} {o : Oper} {a : Act} {Q : Exit → Act → World → Prop} {W : World} {base : Nat} {v : Value} {G : List Nr} (hgd : o.guard = none) (s y : Operand)
    (ho : o.op = .call { callee := .builtin .append, args := #[s, y], argTypes := #[47, 47] }) (hs : a.eval s = v) (hown : GRow base W v G) {cs : List Value} {f : Nr} (hz : Rz 0 W cs f)
    (H : Nat) (hx : a.eval y = .slice (some ⟨H, 0, none⟩) 1 1) (hH : W.heap.size = H) (n : Nat) (hnl : G.length = n) (hn : n ≤ 1000000000) (hbase : base ≤ W.heap.size)
    (h : ∀ g cap W', GRow base W' (.slice (some ⟨g, 0, none⟩) (n + 1) cap) (G ++ [f]) → W.grownBy W' v.ownBlock → wpList Tryz.prog ops Q rest (a.put o.dst (.slice (some ⟨g, 0, none⟩) (n + 1) cap)) W') :
    wpList Tryz.prog ops Q (o :: rest) a (W.alloc (.cells cs.toArray 76)) := by
  subst hH
  subst hnl
  obtain ⟨i0, hinf, hz0, hz1, hz2⟩ := info_lr
  obtain ⟨xs, h1, h2⟩ := hown.ex
  have hlen : cs.length = 8 := by
    obtain ⟨va, c0, c1, c2, c3, c4, c5, e, _⟩ := hz.ex
    rw [e]; rfl
  have hshape : (∀ u ∈ cs, u.oneCell' = true) ∧ ∀ u ∈ cs, ∀ x, u ≠ .int .u32 x := by
    obtain ⟨va, c0, c1, c2, c3, c4, c5, e, hq, hb⟩ := hz.ex
    obtain ⟨pa, ca, rfl⟩ := hq.form
    obtain ⟨p0, pn, pp, pl, pc, q0, qn, qa, ql, qc, e2⟩ := hb.shape
    simp only [List.cons.injEq, and_true] at e2
    obtain ⟨rfl, rfl, rfl, rfl, rfl, rfl⟩ := e2
    rw [e]
    exact ⟨by simp [Value.oneCell'], by intro u hu x; simp at hu; rcases hu with rfl | rfl | rfl | rfl | rfl | rfl | rfl | rfl <;> simp⟩
  have halloc : ∀ j u, cs[j]? = some u → (W.alloc (.cells cs.toArray 76)).cell? ((⟨W.heap.size, 0, none⟩ : Addr).add j) = some u := fun j u hj =>
    World.news_of_block (cs := cs.toArray) (t := 76) (fr := (0, 0)) (heap_alloc_new W _) j u (by simpa using hj)
  have hBA := below_alloc W (.cells cs.toArray 76)
  refine wpList_plain hgd fun _ hK => ?_
  obtain ⟨g, cap, W', hr, k1, k2, k3, k4⟩ := run_append_lies (P := Tryz.prog) (W.alloc (.cells cs.toArray 76)) 47 o.type base 76 i0 _ 8 112 Tryz.underlying47 hinf hz0 hz1 hz2 rfl (by decide) v G.length xs (h1.alloc _) ⟨W.heap.size, 0, none⟩ 1 1 cs (by rw [hlen]) halloc hshape.1 (by decide) (by unfold maxLen; omega) (by omega) (by simp; omega) _ rfl
  have hno := append_no (h1.alloc _) (fun g hg => noInt_below (hown.no g hg) (h1.lt g hg).2 hBA) o.type ⟨W.heap.size, 0, none⟩ cs (by rw [hlen]) halloc hshape.1 hshape.2 hn hr
  have hgr : W.grownBy W' v.ownBlock := (World.grownBy_alloc W _ v.ownBlock).trans k2
  have hsz : W.heap.size ≤ W'.heap.size := hgr.size
  have hkk : ∀ b, b < W.heap.size → v.ownBlock ≠ some b → W'.heap[b]? = W.heap[b]? := fun b hb hne => hgr.block b hb (fun e => hne e.symm)
  unfold Oper.wp execOp
  simp only [ho, resolve, invoke, builtin, Sem.run_bind, Sem.run_pure, Result.andThen_ok, List.map_toArray, List.map_cons, List.map_nil, hs, hx, hr]
  refine hK _ _ (h g cap W' ⟨⟨xs ++ cs, by rw [List.length_append]; exact k1, fun i hi => ?_⟩, fun g' hg' => by cases hg'; exact hno⟩ hgr)
  have hxl : xs.length = G.length * 8 := h1.1
  rw [List.length_append] at hi
  by_cases e : i < G.length
  · rw [List.getElem_append_left e, List.drop_append_of_le_length (by omega), List.take_append_of_le_length (by simp; omega)]
    exact (h2 i e).grown h1 hown.no hsz hkk
  · have hie : i = G.length := by simp at hi; omega
    subst hie
    rw [List.drop_append_of_le_length (by omega), List.drop_eq_nil_of_le (by omega), List.nil_append, List.take_of_length_le (by omega), List.getElem_append_right (Nat.le_refl _)]
    simp only [Nat.sub_self, List.getElem_cons_zero]
    exact hz.grown h1 hown.no hsz hkk
theorem RRow.form {base : Nat} {W : World} {v : Value} {G : List Nr} (h : RRow base 0 W v G) : ∃ p c, v = .slice p G.length c := by
  obtain ⟨xs, h1, _⟩ := h
  obtain ⟨p, c, e, _⟩ := own_form h1
  exact ⟨p, c, e⟩
theorem RRow.at {base : Nat} {W : World} {g n c : Nat} {G : List Nr} (h : RRow base 0 W (.slice (some ⟨g, 0, none⟩) n c) G) {i : Nat} (hi : i < G.length) : ∃ (va : Value) (c0 c1 c2 c3 c4 c5 : Value), (W.cell? ⟨g, i * 8, none⟩ = some va ∧ W.cell? ⟨g, i * 8 + 1, none⟩ = some (.bool G[i].st) ∧ W.cell? ⟨g, i * 8 + 2, none⟩ = some c0 ∧ W.cell? ⟨g, i * 8 + 3, none⟩ = some c1 ∧ W.cell? ⟨g, i * 8 + 4, none⟩ = some c2 ∧ W.cell? ⟨g, i * 8 + 5, none⟩ = some c3 ∧ W.cell? ⟨g, i * 8 + 6, none⟩ = some c4 ∧ W.cell? ⟨g, i * 8 + 7, none⟩ = some c5) ∧ QRow 0 W va (G[i].cs.map (fun x => (x, 1))) ∧ Qz 0 W [c0, c1, c2, c3, c4, c5] G[i].bd 1 none ∧ g < W.heap.size := by
  obtain ⟨xs, h1, h2⟩ := h
  obtain ⟨va, c0, c1, c2, c3, c4, c5, e, hq, hb⟩ := (h2 i hi).ex
  have hl : G.length = n := by
    rcases h1.2 with ⟨e, _⟩ | ⟨_, _, _, e, _⟩
    · cases e
    · cases e; rfl
  subst hl
  refine ⟨va, c0, c1, c2, c3, c4, c5, ⟨?_, ?_, ?_, ?_, ?_, ?_, ?_, ?_⟩, hq, hb, (h1.lt g rfl).2⟩
  · rw [h1.cellAt (i * 8) (by omega)]; exact take_at (d := 0) e (by decide)
  · rw [h1.cellAt (i * 8 + 1) (by omega)]; exact take_at (d := 1) e (by decide)
  · rw [h1.cellAt (i * 8 + 2) (by omega)]; exact take_at (d := 2) e (by decide)
  · rw [h1.cellAt (i * 8 + 3) (by omega)]; exact take_at (d := 3) e (by decide)
  · rw [h1.cellAt (i * 8 + 4) (by omega)]; exact take_at (d := 4) e (by decide)
  · rw [h1.cellAt (i * 8 + 5) (by omega)]; exact take_at (d := 5) e (by decide)
  · rw [h1.cellAt (i * 8 + 6) (by omega)]; exact take_at (d := 6) e (by decide)
  · rw [h1.cellAt (i * 8 + 7) (by omega)]; exact take_at (d := 7) e (by decide)
def AllR (Wh : List Bool) (G : List Nr) (w : World) (e : Ending) (w' : World) : Prop := ∃ v' G', e = .returned v' ∧ GRow w.heap.size w' v' G' ∧ G'.length = G.length ∧ (∀ i, i < G.length → Tight Wh (G.getD i ⟨[], false, 0⟩) (G'.getD i ⟨[], false, 0⟩)) ∧ Below w.heap.size w w'
set_option maxRecDepth 100000 in
set_option maxHeartbeats 4000000 in
theorem l13All_any (wv v : Value) (Wh : List Bool) (G : List Nr) (base : Nat) (w : World) (hw : BoolsAt w wv Wh) (hG : RRow base 0 w v G) (hok : ∀ f ∈ G, Wh.length = f.cs.length ∧ f.cs.length ≤ 20 ∧ Sm5 f) (hl : G.length ≤ 50) :
    Calls Tryz.prog 23 #[wv, v] w (AllR Wh G w) := by
  have HW := hidG hw
  have HG := hidG hG
  have HOK := hidG hok
  obtain ⟨pw, cw, rfl, w1, w2, -⟩ := hw
  obtain ⟨p, c, rfl⟩ := hG.form
  unfold maxLen at w2
  clear hG hok
  go_enter Tryz.func23, Tryz.ntmps23
  go_wp2_with fail
  go_loopw [5, 10] (fun tv iv wr => ∃ (k : Nat) (G' : List Nr), k ≤ G.length ∧ iv = .int .i64 (k : Nat) ∧ GRow w.heap.size wr tv G' ∧ G'.length = k ∧ (∀ i, i < k → Tight Wh (G.getD i ⟨[], false, 0⟩) (G'.getD i ⟨[], false, 0⟩)) ∧ Below w.heap.size w wr) (fun _ iv _ => G.length - (intOf iv).toNat)
  case atStart => exact ⟨0, [], Nat.zero_le _, rfl, GRow.nil _ _, rfl, fun i h => absurd h (Nat.not_lt_zero _), Below.refl _ _⟩
  case round =>
    rename World => wo
    obtain ⟨k, G', hk, rfl, hO, hFl, hTT, hB⟩ := hrel
    have HO := hidG hO
    have HFL := hidG hFl
    have HTT := hidG hTT
    have HBo := hidG hB
    clear hTT hFl
    by_cases hlt : k < G.length
    · obtain ⟨b, rfl⟩ : ∃ b, p = some ⟨b, 0, none⟩ := by
        obtain ⟨xs, h1, _⟩ := HG.out
        rcases h1.2 with ⟨_, e⟩ | ⟨g, _, _, e, _⟩
        · omega
        · cases e; exact ⟨g, rfl⟩
      obtain ⟨va, c0, c1, c2, c3, c4, c5, ⟨k0, k1, k2, k3, k4, k5, k6, k7⟩, hq, hz, hb⟩ := (HG.out.below hB).at hlt
      have HOF := hidG (HOK.out _ (List.getElem_mem hlt))
      have HGD : Hid (G.getD k ⟨[], false, 0⟩ = G[k]) := by unfold Hid; rw [List.getD_eq_getElem?_getD, List.getElem?_eq_getElem hlt]; rfl
      obtain ⟨f, hf⟩ : ∃ f, G[k] = f := ⟨_, rfl⟩
      rw [hf] at k1 hq hz HOF HGD
      obtain ⟨pv, cv, rfl⟩ := hO.form
      have HQ := hidG hq
      obtain ⟨pa, ca, rfl⟩ := hq.form
      rw [List.length_map] at HQ k0
      obtain ⟨zp0, zpn, zpa, zpl, zpc, zq0, zqn, zqa, zql, zqc, e6⟩ := hz.shape
      simp only [List.cons.injEq, and_true] at e6
      obtain ⟨rfl, rfl, rfl, rfl, rfl, rfl⟩ := e6
      have HZ := hidG hz
      obtain ⟨W1, hW1⟩ : ∃ W1, wo.alloc (.cells #[.slice pa f.cs.length ca, .bool f.st, .int .i64 zp0, .bool zpn, .slice zpa zpl zpc, .int .i64 zq0, .bool zqn, .slice zqa zql zqc] 76) = W1 := ⟨_, rfl⟩
      have hB1 : Below wo.heap.size wo W1 := by rw [← hW1]; exact below_alloc _ _
      have hX1 : Bx W1 wo.heap.size [.slice pa f.cs.length ca, .bool f.st, .int .i64 zp0, .bool zpn, .slice zpa zpl zpc, .int .i64 zq0, .bool zqn, .slice zqa zql zqc] := by rw [← hW1]; exact bx_new wo _ _
      have HW1 := hidG hW1
      have HB1 := hidG hB1
      have HCT := hidG (l13Tight_any _ Wh f _ _ _ _ _ _ _ W1 (HW.out.below (hB.trans (hB1.mono hB.size))) (HQ.out.below hB1) (HZ.out.below hB1) HOF.out.1 HOF.out.2.1 HOF.out.2.2)
      obtain ⟨x0, x1, x2, x3, x4, x5, x6, x7⟩ := hX1.c8
      clear hf hW1 hB1 hX1 hB hO hq hz
      go_wp2_with (rw [HW1.out])
      refine HCT.out.mono ?_
      rintro e w2 ⟨n2, cs2, rfl, htt2, hrz2, hb2⟩
      obtain ⟨va2, d0, d1, d2, d3, d4, d5, rfl, hq2, hz2⟩ := id hrz2.ex
      obtain ⟨pa2, ca2, rfl⟩ := hq2.form
      obtain ⟨yp0, ypn, ypa, ypl, ypc, yq0, yqn, yqa, yql, yqc, e6⟩ := hz2.shape
      simp only [List.cons.injEq, and_true] at e6
      obtain ⟨rfl, rfl, rfl, rfl, rfl, rfl⟩ := e6
      rw [List.length_map] at hrz2
      have HRZ2 := hidG hrz2
      have HT2 := hidG htt2
      have HB2 : Hid (Below wo.heap.size wo w2) := HB1.out.trans (hb2.mono HB1.out.size)
      clear hrz2 htt2 hb2 hq2 hz2
      go_wp2_with (at_builtin; refine wpList_appG (W := w2) (base := w.heap.size) (G := G') (f := n2) rfl _ _ rfl rfl ?own ?rz _ rfl ?hH k ?hk ?hn ?hb ?_)
      case own => exact HO.out.below HB2.out
      case rz => exact HRZ2.out
      case hH => rfl
      case hk => exact HFL.out
      case hn => omega
      case hb => exact Nat.le_trans HBo.out.size HB2.out.size
      intro g5 c5 w5 hout5 hgr5
      have HO5 := hidG hout5
      have HB5 : Hid (Below w.heap.size w w5) := by
        have hbw := HBo.out.trans (HB2.out.mono HBo.out.size)
        obtain ⟨xs, h1, _⟩ := HO.out.ex
        exact hbw.grown hgr5 hbw.size (fun b hb => (h1.lt b hb).1)
      have HNX : Hid (∀ i, i < k + 1 → Tight Wh (G.getD i ⟨[], false, 0⟩) ((G' ++ [n2]).getD i ⟨[], false, 0⟩)) := fun i hi => by
        have hfl := HFL.out
        by_cases e : i = k
        · subst e
          rw [HGD.out, List.getD_eq_getElem?_getD (l := G' ++ [n2]), List.getElem?_append_right (by omega), hfl, Nat.sub_self]
          exact HT2.out
        · have := HTT.out i (by omega)
          rw [List.getD_eq_getElem?_getD (l := G')] at this
          rw [List.getD_eq_getElem?_getD (l := G' ++ [n2]), List.getElem?_append_left (by omega)]
          exact this
      clear hout5 hgr5
      go_wp2_with fail
      go_roundw
      case rel => exact ⟨k + 1, G' ++ [n2], by omega, by go_num, HO5.out, by rw [List.length_append, HFL.out]; rfl, HNX.out, HB5.out⟩
      case measure => simp [intOf]; omega
    · have hke : k = G.length := by omega
      rw [hke] at HFL HTT
      clear hB hO
      go_wp2_with fail
      go_ret
      exact ⟨_, G', rfl, HO.out, HFL.out, HTT.out, HBo.out⟩
end Go.Proofs.YtebldkelihmihaaGreatDoor.L
