import Derived.Test.YtdngpnlbhadbpaaTkV
namespace Go.Proofs.Ytdngpnlbhadbpaa
open Go.ChangeShapes Go.WideShapes Go.ChangeAt Go.RowKit
set_option maxRecDepth 100000 in
set_option maxHeartbeats 4000000 in
theorem add_many (base b : Nat) (ns : List (Nd × Int)) (op : List Nat) (k : Int) (t : ByteArray) (q : Int) (w : World) (h : TR base b ns op w) (hn : ns.length = 8000) (hbw : base ≤ w.heap.size) :
    Calls Try.prog 15 #[.pointer (some ⟨b, 0, none⟩), .agg #[.int .i64 k, .string t, .int .i64 0, .int .i64 q]] w fun e w' => e = .returned (.int .i64 5) ∧ Below base w w' := by
  obtain ⟨hb, vn, vo, hbk, h1, _⟩ := h
  rw [hn] at h1
  obtain ⟨p, c, rfl⟩ := own_shape h1
  have k0 := cell2_0 hbk
  have hlt := (Array.getElem?_eq_some_iff.1 hbk).1
  have HW := hidG hbw
  clear hbk h1
  go_enter Try.func15, Try.ntmps15
  go_wp2_with fail
  go_ret
  exact ⟨rfl, (Below.refl _ _).alloc HW.out _⟩
set_option maxRecDepth 100000 in
set_option maxHeartbeats 4000000 in
theorem add_deep (base b : Nat) (ns : List (Nd × Int)) (op : List Nat) (t : ByteArray) (q : Int) (w : World) (h : TR base b ns op w) (hn : ns.length < 8000) (ho : op.length = 200) (hbw : base ≤ w.heap.size) :
    Calls Try.prog 15 #[.pointer (some ⟨b, 0, none⟩), .agg #[.int .i64 1, .string t, .int .i64 0, .int .i64 q]] w fun e w' => e = .returned (.int .i64 6) ∧ Below base w w' := by
  obtain ⟨hb, vn, vo, hbk, h1, h2⟩ := h
  rw [ho] at h2
  obtain ⟨p, c, rfl⟩ := own_shape h1
  obtain ⟨p2, c2, rfl⟩ := own_shape h2
  have k0 := cell2_0 hbk
  have k1 := cell2_1 hbk
  have hlt := (Array.getElem?_eq_some_iff.1 hbk).1
  have HW := hidG hbw
  clear hbk h1 h2
  go_enter Try.func15, Try.ntmps15
  go_wp2_with fail
  go_ret
  exact ⟨rfl, (Below.refl _ _).alloc HW.out _⟩
set_option maxRecDepth 100000 in
set_option maxHeartbeats 4000000 in
theorem add_leaf (base b j : Nat) (r : List Nat) (ns : List (Nd × Int)) (k : Int) (t : ByteArray) (q : Int) (w : World) (h : TR base b ns (j :: r) w) (hn : ns.length < 8000) (hr : r.length + 1 ≤ 200) (hj : j < ns.length) (hki : 0 ≤ ns[j].1.kids ∧ ns[j].1.kids ≤ 8000) (hk : k ≠ 1) (hbw : base ≤ w.heap.size) :
    Calls Try.prog 15 #[.pointer (some ⟨b, 0, none⟩), .agg #[.int .i64 k, .string t, .int .i64 0, .int .i64 q]] w fun e w' => e = .returned (.int .i64 0) ∧ TR base b (addN ns (j :: r) k t q) (j :: r) w' ∧ Below base w w' := by
  obtain ⟨hb, vn, vo, hbk, h1, h2⟩ := h
  rw [List.length_cons] at h2
  obtain ⟨g, c, rfl, hbg, hglt⟩ := h2.form (by omega)
  obtain ⟨gn, cn, rfl, hbgn, hgnlt⟩ := h1.form (by omega)
  have hcap := own_cap h2
  have hcapn := own_cap h1
  have k1 := cell2_1 hbk
  have k0 := cell2_0 hbk
  have hlt := (Array.getElem?_eq_some_iff.1 hbk).1
  have kj := h2.cellAt r.length (by omega)
  rw [intsN_last] at kj
  have kq := h1.cellAt (j * 4 + 2) (by omega)
  rw [cellsN_at ns j 2 hj (by decide)] at kq
  obtain ⟨kd, hkd⟩ : ∃ kd, ns[j].1.kids = kd := ⟨_, rfl⟩
  have kq' : w.cell? ⟨gn, j * 4 + 2, none⟩ = some (.int .i64 kd) := by rw [← hkd]; exact kq
  have fq := h1.frozenAt (j * 4 + 2)
  rw [hkd] at hki
  have hst := h1.stored (j * 4 + 2) (.int .i64 (kd + 1))
  rw [← hkd, cellsN_inc ns j hj, hkd] at hst
  have hgnb : gn ≠ b := fun e => own_ne h1 hbk (by decide) (by rw [← e]; rfl)
  have HST : Hid ((w.setCell ⟨gn, j * 4 + 2, none⟩ (.int .i64 (kd + 1))).ownsRow base 35 4 (.slice (some ⟨gn, 0, none⟩) ns.length cn) ns.length (cellsN (ns.modify j incN))) := hst.1
  have HSO : Hid ((w.setCell ⟨gn, j * 4 + 2, none⟩ (.int .i64 (kd + 1))).ownsRow base 3 1 (.slice (some ⟨g, 0, none⟩) (r.length + 1) c) (r.length + 1) (intsN (j :: r))) := own_apart' h1 h2 (by decide) hst.2
  have HSB : Hid ((w.setCell ⟨gn, j * 4 + 2, none⟩ (.int .i64 (kd + 1))).heap[b]? = some (.cells #[.slice (some ⟨gn, 0, none⟩) ns.length cn, .slice (some ⟨g, 0, none⟩) (r.length + 1) c] 37 (0, 0))) := (Below.heap_setCell w _ _ b (fun e => hgnb e.symm)).trans hbk
  have HBB : Hid (Below base w (w.setCell ⟨gn, j * 4 + 2, none⟩ (.int .i64 (kd + 1)))) := (Below.refl _ _).setCell (p := ⟨gn, j * 4 + 2, none⟩) hbgn _
  unfold maxLen at hcap hcapn
  clear kq hkd hst h1 h2 hbk
  have e1 : (k == 1) = false := by rw [beq_eq_false_iff_ne]; exact hk
  have HW := hidG hbw
  go_enter Try.func15, Try.ntmps15
  go_wp2_with fail
  go_region
  go_wp2_with fail
  obtain ⟨W, hW⟩ : ∃ W, ((w.setCell ⟨gn, j * 4 + 2, none⟩ (.int .i64 (kd + 1))).alloc (.cells #[.int .i64 k, .string t, .int .i64 0, .int .i64 q] 35)).drew = W := ⟨_, rfl⟩
  rw [hW]
  have hNF : W.ownsRow base 35 4 (.slice (some ⟨gn, 0, none⟩) ns.length cn) ns.length (cellsN (ns.modify j incN)) := by rw [← hW]; exact (HST.out.alloc _).drew
  have hOF : W.ownsRow base 3 1 (.slice (some ⟨g, 0, none⟩) (r.length + 1) c) (r.length + 1) (intsN (j :: r)) := by rw [← hW]; exact (HSO.out.alloc _).drew
  have hbF : W.heap[b]? = some (.cells #[(.slice (some ⟨gn, 0, none⟩) ns.length cn), (.slice (some ⟨g, 0, none⟩) (r.length + 1) c)] 37 (0, 0)) := by rw [← hW]; exact ((below_alloc (w.setCell ⟨gn, j * 4 + 2, none⟩ (.int .i64 (kd + 1))) (.cells #[.int .i64 k, .string t, .int .i64 0, .int .i64 q] 35)).block b (by simpa using hlt)).trans HSB.out
  have hXF : Bx W w.heap.size [.int .i64 k, .string t, .int .i64 0, .int .i64 q] := by
    have hx := (bx_new (w.setCell ⟨gn, j * 4 + 2, none⟩ (.int .i64 (kd + 1))) [.int .i64 k, .string t, .int .i64 0, .int .i64 q] 35).drew
    rw [show (w.setCell ⟨gn, j * 4 + 2, none⟩ (.int .i64 (kd + 1))).heap.size = w.heap.size by simp] at hx
    rw [← hW]; exact hx
  have HBF : Hid (Below base w W) := by unfold Hid; rw [← hW]; exact (HBB.out.alloc (by simpa using HW.out) _).drew
  have hszF : W.heap.size = w.heap.size + 1 := by rw [← hW]; simp
  clear hW
  clear hszF
  obtain ⟨Z, hZ⟩ : ∃ Z, W.heap.size = Z := ⟨_, rfl⟩
  have hbZ : b < Z := by rw [← hZ]; exact (Array.getElem?_eq_some_iff.1 hbF).1
  have hnZ : w.heap.size < Z := by rw [← hZ]; exact hXF.lt
  have hbaZ : base ≤ Z := by have := HW.out; omega
  have k0F := cell2_0 hbF
  obtain ⟨x0, x1, x2, x3⟩ := hXF.c4
  obtain ⟨i0, hinf, hz0, hz1, hz2⟩ := info_node
  have HNW : Hid (∀ i u, (nodeC (⟨k, t, 0⟩, q))[i]? = some u → ((W.alloc (.cells #[.int .i64 k, .string t, .int .i64 0, .int .i64 q] 35)).drew).cell? ((⟨Z, 0, none⟩ : Addr).add i) = some u) := by
    have h := World.news_of_block (cs := #[.int .i64 k, .string t, .int .i64 0, .int .i64 q]) (t := 35) (fr := (0, 0)) (heap_alloc_new W (.cells #[.int .i64 k, .string t, .int .i64 0, .int .i64 q] 35))
    rw [hZ] at h
    exact h
  have hbA : ((W.alloc (.cells #[.int .i64 k, .string t, .int .i64 0, .int .i64 q] 35)).drew).heap[b]? = some (.cells #[(.slice (some ⟨gn, 0, none⟩) ns.length cn), (.slice (some ⟨g, 0, none⟩) (r.length + 1) c)] 37 (0, 0)) := ((below_alloc W _).block b (by omega)).trans hbF
  have HA1 : Hid (((W.alloc (.cells #[.int .i64 k, .string t, .int .i64 0, .int .i64 q] 35)).drew).cell? ⟨b, 0, none⟩ = some (.slice (some ⟨gn, 0, none⟩) ns.length cn)) := cell2_0 hbA
  have HA3 : Hid (((W.alloc (.cells #[.int .i64 k, .string t, .int .i64 0, .int .i64 q] 35)).drew).frozen? ⟨b, 0, none⟩ = false) := frz2 hbA 0
  have hneN := own_ne hNF hbF (by decide)
  have HBA := hidG hbA
  have HOF := hidG hOF
  have HNF := hidG hNF
  clear hbA hOF hNF hXF hbF
  go_region_law
    ((refine step_append_lies _ (by rfl) _ _ _ (by rfl) base 35 i0 _ 4 40 Try.underlying22 hinf hz0 hz1 hz2 rfl (by omega) ((.slice (some ⟨gn, 0, none⟩) ns.length cn)) (ns.length) (cellsN (ns.modify j incN)) (by rfl) ((HNF.out.alloc _).drew)
        ⟨Z, 0, none⟩ 1 1 (nodeC (⟨k, t, 0⟩, q)) (by rfl) (by rfl) HNW.out (by simp [nodeC, Value.oneCell'])
        (by omega) (by unfold maxLen; omega) (by omega) (by simp; omega) (Z + 1) (by simp; omega) ?_; intro g4 c4 w4 hown4 hgrow4 hat4 hlt4; have d1 := (hgrow4.cell_far ⟨b, 0, none⟩ (by simp; omega) (Ne.symm hneN)).trans HA1.out; have d2 := (hgrow4.frozen_far ⟨b, 0, none⟩ (by simp; omega) (Ne.symm hneN)).trans HA3.out))
  all_goals
    have hb4 := (hgrow4.block b (by simp; omega) (Ne.symm hneN)).trans HBA.out
    have ho4 := own_apart' ((HNF.out.alloc _).drew) ((HOF.out.alloc _).drew) (by decide) hgrow4
    have HT : Hid (TR base b (addN ns (j :: r) k t q) (j :: r) (w4.setCell ⟨b, 0, none⟩ (.slice (some ⟨g4, 0, none⟩) (ns.length + 1) c4))) := by
      refine ⟨hb, _, _, heap_set20 hb4, ?_, ?_⟩
      · have e : (addN ns (j :: r) k t q).length = ns.length + 1 := by simp [addN, bump_len]
        rw [e]
        unfold addN
        rw [cellsN_snoc]
        exact own_set' hown4 (own_ne hown4 hb4 (by decide)) _ _
      · exact own_set' ho4 (own_ne ho4 hb4 (by decide)) _ _
    have HBL : Hid (Below base w (w4.setCell ⟨b, 0, none⟩ (.slice (some ⟨g4, 0, none⟩) (ns.length + 1) c4))) :=
      ((((HBF.out.alloc (by omega) _).drew).grown hgrow4 (by simp; omega) (fun k e => (HNF.out.lt k e).1))).setCell (p := ⟨b, 0, none⟩) hb _
    clear hb4 ho4 hown4 hgrow4 hat4 hlt4 d1 d2
    go_wp2_with fail
    go_ret
    exact ⟨rfl, HT.out, HBL.out⟩
set_option maxRecDepth 100000 in
set_option maxHeartbeats 4000000 in
theorem add_leaf0 (base b : Nat) (ns : List (Nd × Int)) (k : Int) (t : ByteArray) (q : Int) (w : World) (h : TR base b ns [] w) (hn : ns.length < 8000) (hk : k ≠ 1) (hbw : base ≤ w.heap.size) :
    Calls Try.prog 15 #[.pointer (some ⟨b, 0, none⟩), .agg #[.int .i64 k, .string t, .int .i64 0, .int .i64 q]] w fun e w' => e = .returned (.int .i64 0) ∧ TR base b (addN ns [] k t q) [] w' ∧ Below base w w' := by
  obtain ⟨hb, vn, vo, hbk, h1, h2⟩ := h
  obtain ⟨p2, c, rfl⟩ := own_shape h2
  obtain ⟨p1, cn, rfl⟩ := own_shape h1
  have k1 := cell2_1 hbk
  have k0 := cell2_0 hbk
  have hlt := (Array.getElem?_eq_some_iff.1 hbk).1
  have HST := hidG h1
  have HSO := hidG h2
  have HSB := hidG hbk
  clear h1 h2 hbk
  have e1 : (k == 1) = false := by rw [beq_eq_false_iff_ne]; exact hk
  have HW := hidG hbw
  go_enter Try.func15, Try.ntmps15
  go_wp2_with fail
  obtain ⟨W, hW⟩ : ∃ W, w.alloc (.cells #[.int .i64 k, .string t, .int .i64 0, .int .i64 q] 35) = W := ⟨_, rfl⟩
  rw [hW]
  have hNF : W.ownsRow base 35 4 (.slice p1 ns.length cn) ns.length (cellsN ns) := by rw [← hW]; exact HST.out.alloc _
  have hOF : W.ownsRow base 3 1 (.slice p2 0 c) 0 (intsN []) := by rw [← hW]; exact HSO.out.alloc _
  have hbF : W.heap[b]? = some (.cells #[(.slice p1 ns.length cn), (.slice p2 0 c)] 37 (0, 0)) := by rw [← hW]; exact ((below_alloc w (.cells #[.int .i64 k, .string t, .int .i64 0, .int .i64 q] 35)).block b hlt).trans HSB.out
  have hXF : Bx W w.heap.size [.int .i64 k, .string t, .int .i64 0, .int .i64 q] := by rw [← hW]; exact bx_new w [.int .i64 k, .string t, .int .i64 0, .int .i64 q] 35
  have HBF : Hid (Below base w W) := by unfold Hid; rw [← hW]; exact (Below.refl _ _).alloc HW.out _
  have hszF : W.heap.size = w.heap.size + 1 := by rw [← hW]; simp
  clear hW
  clear hszF
  obtain ⟨Z, hZ⟩ : ∃ Z, W.heap.size = Z := ⟨_, rfl⟩
  have hbZ : b < Z := by rw [← hZ]; exact (Array.getElem?_eq_some_iff.1 hbF).1
  have hnZ : w.heap.size < Z := by rw [← hZ]; exact hXF.lt
  have hbaZ : base ≤ Z := by have := HW.out; omega
  have k0F := cell2_0 hbF
  obtain ⟨x0, x1, x2, x3⟩ := hXF.c4
  obtain ⟨i0, hinf, hz0, hz1, hz2⟩ := info_node
  have HNW : Hid (∀ i u, (nodeC (⟨k, t, 0⟩, q))[i]? = some u → ((W.alloc (.cells #[.int .i64 k, .string t, .int .i64 0, .int .i64 q] 35)).drew).cell? ((⟨Z, 0, none⟩ : Addr).add i) = some u) := by
    have h := World.news_of_block (cs := #[.int .i64 k, .string t, .int .i64 0, .int .i64 q]) (t := 35) (fr := (0, 0)) (heap_alloc_new W (.cells #[.int .i64 k, .string t, .int .i64 0, .int .i64 q] 35))
    rw [hZ] at h
    exact h
  have hbA : ((W.alloc (.cells #[.int .i64 k, .string t, .int .i64 0, .int .i64 q] 35)).drew).heap[b]? = some (.cells #[(.slice p1 ns.length cn), (.slice p2 0 c)] 37 (0, 0)) := ((below_alloc W _).block b (by omega)).trans hbF
  have HA1 : Hid (((W.alloc (.cells #[.int .i64 k, .string t, .int .i64 0, .int .i64 q] 35)).drew).cell? ⟨b, 0, none⟩ = some (.slice p1 ns.length cn)) := cell2_0 hbA
  have HA3 : Hid (((W.alloc (.cells #[.int .i64 k, .string t, .int .i64 0, .int .i64 q] 35)).drew).frozen? ⟨b, 0, none⟩ = false) := frz2 hbA 0
  have hneN := own_ne hNF hbF (by decide)
  have HBA := hidG hbA
  have HOF := hidG hOF
  have HNF := hidG hNF
  clear hbA hOF hNF hXF hbF
  go_region_law
    ((refine step_append_lies _ (by rfl) _ _ _ (by rfl) base 35 i0 _ 4 40 Try.underlying22 hinf hz0 hz1 hz2 rfl (by omega) ((.slice p1 ns.length cn)) (ns.length) (cellsN ns) (by rfl) ((HNF.out.alloc _).drew)
        ⟨Z, 0, none⟩ 1 1 (nodeC (⟨k, t, 0⟩, q)) (by rfl) (by rfl) HNW.out (by simp [nodeC, Value.oneCell'])
        (by omega) (by unfold maxLen; omega) (by omega) (by simp; omega) (Z + 1) (by simp; omega) ?_; intro g4 c4 w4 hown4 hgrow4 hat4 hlt4; have d1 := (hgrow4.cell_far ⟨b, 0, none⟩ (by simp; omega) (Ne.symm hneN)).trans HA1.out; have d2 := (hgrow4.frozen_far ⟨b, 0, none⟩ (by simp; omega) (Ne.symm hneN)).trans HA3.out))
  all_goals
    have hb4 := (hgrow4.block b (by simp; omega) (Ne.symm hneN)).trans HBA.out
    have ho4 := own_apart' ((HNF.out.alloc _).drew) ((HOF.out.alloc _).drew) (by decide) hgrow4
    have HT : Hid (TR base b (addN ns [] k t q) [] (w4.setCell ⟨b, 0, none⟩ (.slice (some ⟨g4, 0, none⟩) (ns.length + 1) c4))) := by
      refine ⟨hb, _, _, heap_set20 hb4, ?_, ?_⟩
      · have e : (addN ns [] k t q).length = ns.length + 1 := by simp [addN, bump_len]
        rw [e]
        unfold addN
        rw [cellsN_snoc]
        exact own_set' hown4 (own_ne hown4 hb4 (by decide)) _ _
      · exact own_set' ho4 (own_ne ho4 hb4 (by decide)) _ _
    have HBL : Hid (Below base w (w4.setCell ⟨b, 0, none⟩ (.slice (some ⟨g4, 0, none⟩) (ns.length + 1) c4))) :=
      ((((HBF.out.alloc (by omega) _).drew).grown hgrow4 (by simp; omega) (fun k e => (HNF.out.lt k e).1))).setCell (p := ⟨b, 0, none⟩) hb _
    clear hb4 ho4 hown4 hgrow4 hat4 hlt4 d1 d2
    go_wp2_with fail
    go_ret
    exact ⟨rfl, HT.out, HBL.out⟩
set_option maxRecDepth 100000 in
set_option maxHeartbeats 4000000 in
theorem add_list (base b j : Nat) (r : List Nat) (ns : List (Nd × Int)) (t : ByteArray) (q : Int) (w : World) (h : TR base b ns (j :: r) w) (hn : ns.length < 8000) (hr : r.length + 1 < 200) (hj : j < ns.length) (hki : 0 ≤ ns[j].1.kids ∧ ns[j].1.kids ≤ 8000) (hbw : base ≤ w.heap.size) :
    Calls Try.prog 15 #[.pointer (some ⟨b, 0, none⟩), .agg #[.int .i64 1, .string t, .int .i64 0, .int .i64 q]] w fun e w' => e = .returned (.int .i64 0) ∧ TR base b (addN ns (j :: r) 1 t q) (ns.length :: (j :: r)) w' ∧ Below base w w' := by
  obtain ⟨hb, vn, vo, hbk, h1, h2⟩ := h
  rw [List.length_cons] at h2
  obtain ⟨g, c, rfl, hbg, hglt⟩ := h2.form (by omega)
  obtain ⟨gn, cn, rfl, hbgn, hgnlt⟩ := h1.form (by omega)
  have hcap := own_cap h2
  have hcapn := own_cap h1
  have k1 := cell2_1 hbk
  have k0 := cell2_0 hbk
  have hlt := (Array.getElem?_eq_some_iff.1 hbk).1
  have kj := h2.cellAt r.length (by omega)
  rw [intsN_last] at kj
  have kq := h1.cellAt (j * 4 + 2) (by omega)
  rw [cellsN_at ns j 2 hj (by decide)] at kq
  obtain ⟨kd, hkd⟩ : ∃ kd, ns[j].1.kids = kd := ⟨_, rfl⟩
  have kq' : w.cell? ⟨gn, j * 4 + 2, none⟩ = some (.int .i64 kd) := by rw [← hkd]; exact kq
  have fq := h1.frozenAt (j * 4 + 2)
  rw [hkd] at hki
  have hst := h1.stored (j * 4 + 2) (.int .i64 (kd + 1))
  rw [← hkd, cellsN_inc ns j hj, hkd] at hst
  have hgnb : gn ≠ b := fun e => own_ne h1 hbk (by decide) (by rw [← e]; rfl)
  have HST : Hid ((w.setCell ⟨gn, j * 4 + 2, none⟩ (.int .i64 (kd + 1))).ownsRow base 35 4 (.slice (some ⟨gn, 0, none⟩) ns.length cn) ns.length (cellsN (ns.modify j incN))) := hst.1
  have HSO : Hid ((w.setCell ⟨gn, j * 4 + 2, none⟩ (.int .i64 (kd + 1))).ownsRow base 3 1 (.slice (some ⟨g, 0, none⟩) (r.length + 1) c) (r.length + 1) (intsN (j :: r))) := own_apart' h1 h2 (by decide) hst.2
  have HSB : Hid ((w.setCell ⟨gn, j * 4 + 2, none⟩ (.int .i64 (kd + 1))).heap[b]? = some (.cells #[.slice (some ⟨gn, 0, none⟩) ns.length cn, .slice (some ⟨g, 0, none⟩) (r.length + 1) c] 37 (0, 0))) := (Below.heap_setCell w _ _ b (fun e => hgnb e.symm)).trans hbk
  have HBB : Hid (Below base w (w.setCell ⟨gn, j * 4 + 2, none⟩ (.int .i64 (kd + 1)))) := (Below.refl _ _).setCell (p := ⟨gn, j * 4 + 2, none⟩) hbgn _
  unfold maxLen at hcap hcapn
  clear kq hkd hst h1 h2 hbk
  have HW := hidG hbw
  go_enter Try.func15, Try.ntmps15
  go_wp2_with fail
  go_region
  go_wp2_with fail
  obtain ⟨W, hW⟩ : ∃ W, ((w.setCell ⟨gn, j * 4 + 2, none⟩ (.int .i64 (kd + 1))).alloc (.cells #[.int .i64 1, .string t, .int .i64 0, .int .i64 q] 35)).drew = W := ⟨_, rfl⟩
  rw [hW]
  have hNF : W.ownsRow base 35 4 (.slice (some ⟨gn, 0, none⟩) ns.length cn) ns.length (cellsN (ns.modify j incN)) := by rw [← hW]; exact (HST.out.alloc _).drew
  have hOF : W.ownsRow base 3 1 (.slice (some ⟨g, 0, none⟩) (r.length + 1) c) (r.length + 1) (intsN (j :: r)) := by rw [← hW]; exact (HSO.out.alloc _).drew
  have hbF : W.heap[b]? = some (.cells #[(.slice (some ⟨gn, 0, none⟩) ns.length cn), (.slice (some ⟨g, 0, none⟩) (r.length + 1) c)] 37 (0, 0)) := by rw [← hW]; exact ((below_alloc (w.setCell ⟨gn, j * 4 + 2, none⟩ (.int .i64 (kd + 1))) (.cells #[.int .i64 1, .string t, .int .i64 0, .int .i64 q] 35)).block b (by simpa using hlt)).trans HSB.out
  have hXF : Bx W w.heap.size [.int .i64 1, .string t, .int .i64 0, .int .i64 q] := by
    have hx := (bx_new (w.setCell ⟨gn, j * 4 + 2, none⟩ (.int .i64 (kd + 1))) [.int .i64 1, .string t, .int .i64 0, .int .i64 q] 35).drew
    rw [show (w.setCell ⟨gn, j * 4 + 2, none⟩ (.int .i64 (kd + 1))).heap.size = w.heap.size by simp] at hx
    rw [← hW]; exact hx
  have HBF : Hid (Below base w W) := by unfold Hid; rw [← hW]; exact (HBB.out.alloc (by simpa using HW.out) _).drew
  have hszF : W.heap.size = w.heap.size + 1 := by rw [← hW]; simp
  clear hW
  have k0F := cell2_0 hbF
  have k1F := cell2_1 hbF
  obtain ⟨i0, hinf, hz0, hz1, hz2⟩ := info_parts Try.info_int
  have HNW : Hid (∀ i u, [Value.int .i64 (ns.length : Nat)][i]? = some u → ((W.alloc (.cells #[.int .i64 (ns.length : Nat)] 3)).drew).cell? ((⟨w.heap.size + 1, 0, none⟩ : Addr).add i) = some u) := by
    have h := World.news_of_block (cs := #[.int .i64 (ns.length : Nat)]) (t := 3) (fr := (0, 0)) (heap_alloc_new W (.cells #[.int .i64 (ns.length : Nat)] 3))
    rw [hszF] at h
    exact h
  have hbA : ((W.alloc (.cells #[.int .i64 (ns.length : Nat)] 3)).drew).heap[b]? = some (.cells #[(.slice (some ⟨gn, 0, none⟩) ns.length cn), (.slice (some ⟨g, 0, none⟩) (r.length + 1) c)] 37 (0, 0)) := ((below_alloc W _).block b (by omega)).trans hbF
  have HA1 : Hid (((W.alloc (.cells #[.int .i64 (ns.length : Nat)] 3)).drew).cell? ⟨b, 1, none⟩ = some (.slice (some ⟨g, 0, none⟩) (r.length + 1) c)) := cell2_1 hbA
  have HA3 : Hid (((W.alloc (.cells #[.int .i64 (ns.length : Nat)] 3)).drew).frozen? ⟨b, 1, none⟩ = false) := frz2 hbA 1
  have hne := own_ne hOF hbF (by decide)
  have HBA := hidG hbA
  have HOF := hidG hOF
  have HNF := hidG hNF
  have HXF := hidG hXF
  clear hbA hOF hNF hXF hbF
  go_region_law
    ((refine step_append_lies _ (by rfl) _ _ _ (by rfl) base 3 i0 _ 1 8 Try.underlying29 hinf hz0 hz1 hz2 rfl (by omega) ((.slice (some ⟨g, 0, none⟩) (r.length + 1) c)) ((r.length + 1)) (intsN (j :: r)) (by rfl) ((HOF.out.alloc _).drew)
        ⟨w.heap.size + 1, 0, none⟩ 1 1 [.int .i64 (ns.length : Nat)] (by rfl) (by rfl) HNW.out (by simp [Value.oneCell'])
        (by omega) (by unfold maxLen; omega) (by omega) (by simp; omega) (w.heap.size + 2) (by simp; omega) ?_; intro g3 c3 w3 hown3 hgrow hat hlt3; have d1 := (hgrow.cell_far ⟨b, 1, none⟩ (by simp; omega) (Ne.symm hne)).trans HA1.out; have d2 := (hgrow.frozen_far ⟨b, 1, none⟩ (by simp; omega) (Ne.symm hne)).trans HA3.out))
  all_goals
    obtain ⟨V, hV⟩ : ∃ V, w3.setCell ⟨b, 1, none⟩ (.slice (some ⟨g3, 0, none⟩) ((r.length + 1) + 1) c3) = V := ⟨_, rfl⟩
    rw [hV]
    have hb3 := (hgrow.block b (by simp; omega) (Ne.symm hne)).trans HBA.out
    have hbF : V.heap[b]? = some (.cells #[(.slice (some ⟨gn, 0, none⟩) ns.length cn), .slice (some ⟨g3, 0, none⟩) ((r.length + 1) + 1) c3] 37 (0, 0)) := by rw [← hV]; exact heap_set2 hb3
    have hn3 := own_apart' ((HOF.out.alloc _).drew) ((HNF.out.alloc _).drew) (by decide) hgrow
    have hNF : V.ownsRow base 35 4 (.slice (some ⟨gn, 0, none⟩) ns.length cn) ns.length (cellsN (ns.modify j incN)) := by rw [← hV]; exact own_set' hn3 (own_ne hn3 hb3 (by decide)) _ _
    have hOF : V.ownsRow base 3 1 (.slice (some ⟨g3, 0, none⟩) ((r.length + 1) + 1) c3) ((r.length + 1) + 1) (intsN (ns.length :: (j :: r))) := by rw [← hV, intsN_cons]; exact own_set' hown3 (own_ne hown3 hb3 (by decide)) _ _
    have hXF : Bx V w.heap.size [.int .i64 1, .string t, .int .i64 0, .int .i64 q] := by
      rw [← hV]
      obtain ⟨ty, hx⟩ := (HXF.out.alloc (.cells #[.int .i64 (ns.length : Nat)] 3)).drew
      refine ⟨ty, ?_⟩
      rw [Below.heap_setCell w3 _ _ w.heap.size (by show w.heap.size ≠ b; omega)]
      refine (hgrow.block w.heap.size (by simp; omega) ?_).trans hx
      intro e
      have := ((HSO.out.lt) _ e.symm).2
      simp at this
    have HBF : Hid (Below base w V) := by
      unfold Hid; rw [← hV]
      exact ((((HBF.out.alloc (by omega) _).drew).grown hgrow (by simp; omega) (fun k e => (HOF.out.lt k e).1))).setCell (p := ⟨b, 1, none⟩) hb _
    have hzV : w.heap.size + 1 ≤ V.heap.size := by rw [← hV]; have := hgrow.size; simp at this ⊢; omega
    clear hV hb3 d1 d2 hgrow hat hlt3 hown3 hn3 k0F k1F hszF
    go_wp2_with fail
    obtain ⟨Z, hZ⟩ : ∃ Z, V.heap.size = Z := ⟨_, rfl⟩
    have hbZ : b < Z := by rw [← hZ]; exact (Array.getElem?_eq_some_iff.1 hbF).1
    have hnZ : w.heap.size < Z := by rw [← hZ]; exact hXF.lt
    have hbaZ : base ≤ Z := by have := HW.out; omega
    have k0F := cell2_0 hbF
    obtain ⟨x0, x1, x2, x3⟩ := hXF.c4
    obtain ⟨i0, hinf, hz0, hz1, hz2⟩ := info_node
    have HNW : Hid (∀ i u, (nodeC (⟨1, t, 0⟩, q))[i]? = some u → ((V.alloc (.cells #[.int .i64 1, .string t, .int .i64 0, .int .i64 q] 35)).drew).cell? ((⟨Z, 0, none⟩ : Addr).add i) = some u) := by
      have h := World.news_of_block (cs := #[.int .i64 1, .string t, .int .i64 0, .int .i64 q]) (t := 35) (fr := (0, 0)) (heap_alloc_new V (.cells #[.int .i64 1, .string t, .int .i64 0, .int .i64 q] 35))
      rw [hZ] at h
      exact h
    have hbA : ((V.alloc (.cells #[.int .i64 1, .string t, .int .i64 0, .int .i64 q] 35)).drew).heap[b]? = some (.cells #[(.slice (some ⟨gn, 0, none⟩) ns.length cn), (.slice (some ⟨g3, 0, none⟩) ((r.length + 1) + 1) c3)] 37 (0, 0)) := ((below_alloc V _).block b (by omega)).trans hbF
    have HA1 : Hid (((V.alloc (.cells #[.int .i64 1, .string t, .int .i64 0, .int .i64 q] 35)).drew).cell? ⟨b, 0, none⟩ = some (.slice (some ⟨gn, 0, none⟩) ns.length cn)) := cell2_0 hbA
    have HA3 : Hid (((V.alloc (.cells #[.int .i64 1, .string t, .int .i64 0, .int .i64 q] 35)).drew).frozen? ⟨b, 0, none⟩ = false) := frz2 hbA 0
    have hneN := own_ne hNF hbF (by decide)
    have HBA := hidG hbA
    have HOF := hidG hOF
    have HNF := hidG hNF
    clear hbA hOF hNF hXF hbF
    go_region_law
      ((refine step_append_lies _ (by rfl) _ _ _ (by rfl) base 35 i0 _ 4 40 Try.underlying22 hinf hz0 hz1 hz2 rfl (by omega) ((.slice (some ⟨gn, 0, none⟩) ns.length cn)) (ns.length) (cellsN (ns.modify j incN)) (by rfl) ((HNF.out.alloc _).drew)
          ⟨Z, 0, none⟩ 1 1 (nodeC (⟨1, t, 0⟩, q)) (by rfl) (by rfl) HNW.out (by simp [nodeC, Value.oneCell'])
          (by omega) (by unfold maxLen; omega) (by omega) (by simp; omega) (Z + 1) (by simp; omega) ?_; intro g4 c4 w4 hown4 hgrow4 hat4 hlt4; have d1 := (hgrow4.cell_far ⟨b, 0, none⟩ (by simp; omega) (Ne.symm hneN)).trans HA1.out; have d2 := (hgrow4.frozen_far ⟨b, 0, none⟩ (by simp; omega) (Ne.symm hneN)).trans HA3.out))
    all_goals
      have hb4 := (hgrow4.block b (by simp; omega) (Ne.symm hneN)).trans HBA.out
      have ho4 := own_apart' ((HNF.out.alloc _).drew) ((HOF.out.alloc _).drew) (by decide) hgrow4
      have HT : Hid (TR base b (addN ns (j :: r) 1 t q) (ns.length :: (j :: r)) (w4.setCell ⟨b, 0, none⟩ (.slice (some ⟨g4, 0, none⟩) (ns.length + 1) c4))) := by
        refine ⟨hb, _, _, heap_set20 hb4, ?_, ?_⟩
        · have e : (addN ns (j :: r) 1 t q).length = ns.length + 1 := by simp [addN, bump_len]
          rw [e]
          unfold addN
          rw [cellsN_snoc]
          exact own_set' hown4 (own_ne hown4 hb4 (by decide)) _ _
        · exact own_set' ho4 (own_ne ho4 hb4 (by decide)) _ _
      have HBL : Hid (Below base w (w4.setCell ⟨b, 0, none⟩ (.slice (some ⟨g4, 0, none⟩) (ns.length + 1) c4))) :=
        ((((HBF.out.alloc (by omega) _).drew).grown hgrow4 (by simp; omega) (fun k e => (HNF.out.lt k e).1))).setCell (p := ⟨b, 0, none⟩) hb _
      clear hb4 ho4 hown4 hgrow4 hat4 hlt4 d1 d2
      go_wp2_with fail
      go_ret
      exact ⟨rfl, HT.out, HBL.out⟩
set_option maxRecDepth 100000 in
set_option maxHeartbeats 4000000 in
theorem add_list0 (base b : Nat) (ns : List (Nd × Int)) (t : ByteArray) (q : Int) (w : World) (h : TR base b ns [] w) (hn : ns.length < 8000) (hbw : base ≤ w.heap.size) :
    Calls Try.prog 15 #[.pointer (some ⟨b, 0, none⟩), .agg #[.int .i64 1, .string t, .int .i64 0, .int .i64 q]] w fun e w' => e = .returned (.int .i64 0) ∧ TR base b (addN ns [] 1 t q) (ns.length :: []) w' ∧ Below base w w' := by
  obtain ⟨hb, vn, vo, hbk, h1, h2⟩ := h
  obtain ⟨p2, c, rfl⟩ := own_shape h2
  obtain ⟨p1, cn, rfl⟩ := own_shape h1
  have k1 := cell2_1 hbk
  have k0 := cell2_0 hbk
  have hlt := (Array.getElem?_eq_some_iff.1 hbk).1
  have HST := hidG h1
  have HSO := hidG h2
  have HSB := hidG hbk
  clear h1 h2 hbk
  have HW := hidG hbw
  go_enter Try.func15, Try.ntmps15
  go_wp2_with fail
  obtain ⟨W, hW⟩ : ∃ W, w.alloc (.cells #[.int .i64 1, .string t, .int .i64 0, .int .i64 q] 35) = W := ⟨_, rfl⟩
  rw [hW]
  have hNF : W.ownsRow base 35 4 (.slice p1 ns.length cn) ns.length (cellsN ns) := by rw [← hW]; exact HST.out.alloc _
  have hOF : W.ownsRow base 3 1 (.slice p2 0 c) 0 (intsN []) := by rw [← hW]; exact HSO.out.alloc _
  have hbF : W.heap[b]? = some (.cells #[(.slice p1 ns.length cn), (.slice p2 0 c)] 37 (0, 0)) := by rw [← hW]; exact ((below_alloc w (.cells #[.int .i64 1, .string t, .int .i64 0, .int .i64 q] 35)).block b hlt).trans HSB.out
  have hXF : Bx W w.heap.size [.int .i64 1, .string t, .int .i64 0, .int .i64 q] := by rw [← hW]; exact bx_new w [.int .i64 1, .string t, .int .i64 0, .int .i64 q] 35
  have HBF : Hid (Below base w W) := by unfold Hid; rw [← hW]; exact (Below.refl _ _).alloc HW.out _
  have hszF : W.heap.size = w.heap.size + 1 := by rw [← hW]; simp
  clear hW
  have k0F := cell2_0 hbF
  have k1F := cell2_1 hbF
  obtain ⟨i0, hinf, hz0, hz1, hz2⟩ := info_parts Try.info_int
  have HNW : Hid (∀ i u, [Value.int .i64 (ns.length : Nat)][i]? = some u → ((W.alloc (.cells #[.int .i64 (ns.length : Nat)] 3)).drew).cell? ((⟨w.heap.size + 1, 0, none⟩ : Addr).add i) = some u) := by
    have h := World.news_of_block (cs := #[.int .i64 (ns.length : Nat)]) (t := 3) (fr := (0, 0)) (heap_alloc_new W (.cells #[.int .i64 (ns.length : Nat)] 3))
    rw [hszF] at h
    exact h
  have hbA : ((W.alloc (.cells #[.int .i64 (ns.length : Nat)] 3)).drew).heap[b]? = some (.cells #[(.slice p1 ns.length cn), (.slice p2 0 c)] 37 (0, 0)) := ((below_alloc W _).block b (by omega)).trans hbF
  have HA1 : Hid (((W.alloc (.cells #[.int .i64 (ns.length : Nat)] 3)).drew).cell? ⟨b, 1, none⟩ = some (.slice p2 0 c)) := cell2_1 hbA
  have HA3 : Hid (((W.alloc (.cells #[.int .i64 (ns.length : Nat)] 3)).drew).frozen? ⟨b, 1, none⟩ = false) := frz2 hbA 1
  have hne := own_ne hOF hbF (by decide)
  have HBA := hidG hbA
  have HOF := hidG hOF
  have HNF := hidG hNF
  have HXF := hidG hXF
  clear hbA hOF hNF hXF hbF
  go_region_law
    ((refine step_append_lies _ (by rfl) _ _ _ (by rfl) base 3 i0 _ 1 8 Try.underlying29 hinf hz0 hz1 hz2 rfl (by omega) ((.slice p2 0 c)) (0) (intsN []) (by rfl) ((HOF.out.alloc _).drew)
        ⟨w.heap.size + 1, 0, none⟩ 1 1 [.int .i64 (ns.length : Nat)] (by rfl) (by rfl) HNW.out (by simp [Value.oneCell'])
        (by omega) (by unfold maxLen; omega) (by omega) (by simp; omega) (w.heap.size + 2) (by simp; omega) ?_; intro g3 c3 w3 hown3 hgrow hat hlt3; have d1 := (hgrow.cell_far ⟨b, 1, none⟩ (by simp; omega) (Ne.symm hne)).trans HA1.out; have d2 := (hgrow.frozen_far ⟨b, 1, none⟩ (by simp; omega) (Ne.symm hne)).trans HA3.out))
  all_goals
    obtain ⟨V, hV⟩ : ∃ V, w3.setCell ⟨b, 1, none⟩ (.slice (some ⟨g3, 0, none⟩) (0 + 1) c3) = V := ⟨_, rfl⟩
    rw [hV]
    have hb3 := (hgrow.block b (by simp; omega) (Ne.symm hne)).trans HBA.out
    have hbF : V.heap[b]? = some (.cells #[(.slice p1 ns.length cn), .slice (some ⟨g3, 0, none⟩) (0 + 1) c3] 37 (0, 0)) := by rw [← hV]; exact heap_set2 hb3
    have hn3 := own_apart' ((HOF.out.alloc _).drew) ((HNF.out.alloc _).drew) (by decide) hgrow
    have hNF : V.ownsRow base 35 4 (.slice p1 ns.length cn) ns.length (cellsN ns) := by rw [← hV]; exact own_set' hn3 (own_ne hn3 hb3 (by decide)) _ _
    have hOF : V.ownsRow base 3 1 (.slice (some ⟨g3, 0, none⟩) (0 + 1) c3) (0 + 1) (intsN (ns.length :: [])) := by rw [← hV, intsN_cons]; exact own_set' hown3 (own_ne hown3 hb3 (by decide)) _ _
    have hXF : Bx V w.heap.size [.int .i64 1, .string t, .int .i64 0, .int .i64 q] := by
      rw [← hV]
      obtain ⟨ty, hx⟩ := (HXF.out.alloc (.cells #[.int .i64 (ns.length : Nat)] 3)).drew
      refine ⟨ty, ?_⟩
      rw [Below.heap_setCell w3 _ _ w.heap.size (by show w.heap.size ≠ b; omega)]
      refine (hgrow.block w.heap.size (by simp; omega) ?_).trans hx
      intro e
      have := ((HSO.out.lt) _ e.symm).2
      simp at this
    have HBF : Hid (Below base w V) := by
      unfold Hid; rw [← hV]
      exact ((((HBF.out.alloc (by omega) _).drew).grown hgrow (by simp; omega) (fun k e => (HOF.out.lt k e).1))).setCell (p := ⟨b, 1, none⟩) hb _
    have hzV : w.heap.size + 1 ≤ V.heap.size := by rw [← hV]; have := hgrow.size; simp at this ⊢; omega
    clear hV hb3 d1 d2 hgrow hat hlt3 hown3 hn3 k0F k1F hszF
    go_wp2_with fail
    obtain ⟨Z, hZ⟩ : ∃ Z, V.heap.size = Z := ⟨_, rfl⟩
    have hbZ : b < Z := by rw [← hZ]; exact (Array.getElem?_eq_some_iff.1 hbF).1
    have hnZ : w.heap.size < Z := by rw [← hZ]; exact hXF.lt
    have hbaZ : base ≤ Z := by have := HW.out; omega
    have k0F := cell2_0 hbF
    obtain ⟨x0, x1, x2, x3⟩ := hXF.c4
    obtain ⟨i0, hinf, hz0, hz1, hz2⟩ := info_node
    have HNW : Hid (∀ i u, (nodeC (⟨1, t, 0⟩, q))[i]? = some u → ((V.alloc (.cells #[.int .i64 1, .string t, .int .i64 0, .int .i64 q] 35)).drew).cell? ((⟨Z, 0, none⟩ : Addr).add i) = some u) := by
      have h := World.news_of_block (cs := #[.int .i64 1, .string t, .int .i64 0, .int .i64 q]) (t := 35) (fr := (0, 0)) (heap_alloc_new V (.cells #[.int .i64 1, .string t, .int .i64 0, .int .i64 q] 35))
      rw [hZ] at h
      exact h
    have hbA : ((V.alloc (.cells #[.int .i64 1, .string t, .int .i64 0, .int .i64 q] 35)).drew).heap[b]? = some (.cells #[(.slice p1 ns.length cn), (.slice (some ⟨g3, 0, none⟩) (0 + 1) c3)] 37 (0, 0)) := ((below_alloc V _).block b (by omega)).trans hbF
    have HA1 : Hid (((V.alloc (.cells #[.int .i64 1, .string t, .int .i64 0, .int .i64 q] 35)).drew).cell? ⟨b, 0, none⟩ = some (.slice p1 ns.length cn)) := cell2_0 hbA
    have HA3 : Hid (((V.alloc (.cells #[.int .i64 1, .string t, .int .i64 0, .int .i64 q] 35)).drew).frozen? ⟨b, 0, none⟩ = false) := frz2 hbA 0
    have hneN := own_ne hNF hbF (by decide)
    have HBA := hidG hbA
    have HOF := hidG hOF
    have HNF := hidG hNF
    clear hbA hOF hNF hXF hbF
    go_region_law
      ((refine step_append_lies _ (by rfl) _ _ _ (by rfl) base 35 i0 _ 4 40 Try.underlying22 hinf hz0 hz1 hz2 rfl (by omega) ((.slice p1 ns.length cn)) (ns.length) (cellsN ns) (by rfl) ((HNF.out.alloc _).drew)
          ⟨Z, 0, none⟩ 1 1 (nodeC (⟨1, t, 0⟩, q)) (by rfl) (by rfl) HNW.out (by simp [nodeC, Value.oneCell'])
          (by omega) (by unfold maxLen; omega) (by omega) (by simp; omega) (Z + 1) (by simp; omega) ?_; intro g4 c4 w4 hown4 hgrow4 hat4 hlt4; have d1 := (hgrow4.cell_far ⟨b, 0, none⟩ (by simp; omega) (Ne.symm hneN)).trans HA1.out; have d2 := (hgrow4.frozen_far ⟨b, 0, none⟩ (by simp; omega) (Ne.symm hneN)).trans HA3.out))
    all_goals
      have hb4 := (hgrow4.block b (by simp; omega) (Ne.symm hneN)).trans HBA.out
      have ho4 := own_apart' ((HNF.out.alloc _).drew) ((HOF.out.alloc _).drew) (by decide) hgrow4
      have HT : Hid (TR base b (addN ns [] 1 t q) (ns.length :: []) (w4.setCell ⟨b, 0, none⟩ (.slice (some ⟨g4, 0, none⟩) (ns.length + 1) c4))) := by
        refine ⟨hb, _, _, heap_set20 hb4, ?_, ?_⟩
        · have e : (addN ns [] 1 t q).length = ns.length + 1 := by simp [addN, bump_len]
          rw [e]
          unfold addN
          rw [cellsN_snoc]
          exact own_set' hown4 (own_ne hown4 hb4 (by decide)) _ _
        · exact own_set' ho4 (own_ne ho4 hb4 (by decide)) _ _
      have HBL : Hid (Below base w (w4.setCell ⟨b, 0, none⟩ (.slice (some ⟨g4, 0, none⟩) (ns.length + 1) c4))) :=
        ((((HBF.out.alloc (by omega) _).drew).grown hgrow4 (by simp; omega) (fun k e => (HNF.out.lt k e).1))).setCell (p := ⟨b, 0, none⟩) hb _
      clear hb4 ho4 hown4 hgrow4 hat4 hlt4 d1 d2
      go_wp2_with fail
      go_ret
      exact ⟨rfl, HT.out, HBL.out⟩
end Go.Proofs.Ytdngpnlbhadbpaa
