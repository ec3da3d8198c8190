import Derived.Test.YtdngpnlbhadbpaaDoorTkV
import Derived.Test.YtdngpnlbhadbpaaDoorTkAll
namespace Go.Proofs.YtdngpnlbhadbpaaDoor
open Go.ChangeShapes Go.WideShapes Go.ChangeAt Go.RowKit
set_option maxRecDepth 100000 in
set_option maxHeartbeats 4000000 in
theorem add_many (base b : Nat) (ns : List (Nd × Int)) (op : List Nat) (k : Int) (t : ByteArray) (q : Int) (w : World) (h : TR base b ns op w) (hn : ns.length = 8000) (hbw : base ≤ w.heap.size) :
    Calls Tryd.prog 24 #[.pointer (some ⟨b, 0, none⟩), .agg #[.int .i64 k, .string t, .int .i64 0, .int .i64 q]] w fun e w' => e = .returned (.int .i64 5) ∧ Below base w w' := by
  obtain ⟨hb, vn, vo, hbk, h1, _⟩ := h
  rw [hn] at h1
  obtain ⟨p, c, rfl⟩ := own_shape h1
  have k0 := cell2_0 hbk
  have hlt := (Array.getElem?_eq_some_iff.1 hbk).1
  have HW := hidG hbw
  clear hbk h1
  go_enter Tryd.func24, Tryd.ntmps24
  go_wp2_with fail
  go_ret
  exact ⟨rfl, (Below.refl _ _).alloc HW.out _⟩
set_option maxRecDepth 100000 in
set_option maxHeartbeats 4000000 in
theorem add_deep (base b : Nat) (ns : List (Nd × Int)) (op : List Nat) (t : ByteArray) (q : Int) (w : World) (h : TR base b ns op w) (hn : ns.length < 8000) (ho : op.length = 200) (hbw : base ≤ w.heap.size) :
    Calls Tryd.prog 24 #[.pointer (some ⟨b, 0, none⟩), .agg #[.int .i64 1, .string t, .int .i64 0, .int .i64 q]] w fun e w' => e = .returned (.int .i64 6) ∧ Below base w w' := by
  obtain ⟨hb, vn, vo, hbk, h1, h2⟩ := h
  rw [ho] at h2
  obtain ⟨p, c, rfl⟩ := own_shape h1
  obtain ⟨p2, c2, rfl⟩ := own_shape h2
  have k0 := cell2_0 hbk
  have k1 := cell2_1 hbk
  have hlt := (Array.getElem?_eq_some_iff.1 hbk).1
  have HW := hidG hbw
  clear hbk h1 h2
  go_enter Tryd.func24, Tryd.ntmps24
  go_wp2_with fail
  go_ret
  exact ⟨rfl, (Below.refl _ _).alloc HW.out _⟩
set_option maxRecDepth 100000 in
set_option maxHeartbeats 4000000 in
theorem add_leaf (base b j : Nat) (r : List Nat) (ns : List (Nd × Int)) (k : Int) (t : ByteArray) (q : Int) (w : World) (h : TR base b ns (j :: r) w) (hn : ns.length < 8000) (hr : r.length + 1 ≤ 200) (hj : j < ns.length) (hki : 0 ≤ ns[j].1.kids ∧ ns[j].1.kids ≤ 8000) (hk : k ≠ 1) (hbw : base ≤ w.heap.size) :
    Calls Tryd.prog 24 #[.pointer (some ⟨b, 0, none⟩), .agg #[.int .i64 k, .string t, .int .i64 0, .int .i64 q]] w fun e w' => e = .returned (.int .i64 0) ∧ TR base b (addN ns (j :: r) k t q) (j :: r) w' ∧ Below base w w' := by
  obtain ⟨hb, vn, vo, hbk, h1, h2⟩ := h
  rw [List.length_cons] at h2
  obtain ⟨g, c, rfl, hbg, hglt⟩ := h2.form (by omega)
  obtain ⟨gn, cn, rfl, hbgn, hgnlt⟩ := h1.form (by omega)
  have hcap := own_cap h2
  have hcapn := own_cap h1
  have k1 := cell2_1 hbk
  have k0 := cell2_0 hbk
  have hlt := (Array.getElem?_eq_some_iff.1 hbk).1
  have kj := h2.cellAt r.length (by omega)
  rw [intsN_last] at kj
  have kq := h1.cellAt (j * 4 + 2) (by omega)
  rw [cellsN_at ns j 2 hj (by decide)] at kq
  obtain ⟨kd, hkd⟩ : ∃ kd, ns[j].1.kids = kd := ⟨_, rfl⟩
  have kq' : w.cell? ⟨gn, j * 4 + 2, none⟩ = some (.int .i64 kd) := by rw [← hkd]; exact kq
  have fq := h1.frozenAt (j * 4 + 2)
  rw [hkd] at hki
  have hst := h1.stored (j * 4 + 2) (.int .i64 (kd + 1))
  rw [← hkd, cellsN_inc ns j hj, hkd] at hst
  have hgnb : gn ≠ b := fun e => own_ne h1 hbk (by decide) (by rw [← e]; rfl)
  have HST : Hid ((w.setCell ⟨gn, j * 4 + 2, none⟩ (.int .i64 (kd + 1))).ownsRow base 31 4 (.slice (some ⟨gn, 0, none⟩) ns.length cn) ns.length (cellsN (ns.modify j incN))) := hst.1
  have HSO : Hid ((w.setCell ⟨gn, j * 4 + 2, none⟩ (.int .i64 (kd + 1))).ownsRow base 3 1 (.slice (some ⟨g, 0, none⟩) (r.length + 1) c) (r.length + 1) (intsN (j :: r))) := own_apart' h1 h2 (by decide) hst.2
  have HSB : Hid ((w.setCell ⟨gn, j * 4 + 2, none⟩ (.int .i64 (kd + 1))).heap[b]? = some (.cells #[.slice (some ⟨gn, 0, none⟩) ns.length cn, .slice (some ⟨g, 0, none⟩) (r.length + 1) c] 40 (0, 0))) := (Below.heap_setCell w _ _ b (fun e => hgnb e.symm)).trans hbk
  have HBB : Hid (Below base w (w.setCell ⟨gn, j * 4 + 2, none⟩ (.int .i64 (kd + 1)))) := (Below.refl _ _).setCell (p := ⟨gn, j * 4 + 2, none⟩) hbgn _
  unfold maxLen at hcap hcapn
  clear kq hkd hst h1 h2 hbk
  have e1 : (k == 1) = false := by rw [beq_eq_false_iff_ne]; exact hk
  have HW := hidG hbw
  go_enter Tryd.func24, Tryd.ntmps24
  go_wp2_with fail
  go_region
  go_wp2_with fail
  obtain ⟨W, hW⟩ : ∃ W, ((w.setCell ⟨gn, j * 4 + 2, none⟩ (.int .i64 (kd + 1))).alloc (.cells #[.int .i64 k, .string t, .int .i64 0, .int .i64 q] 31)).drew = W := ⟨_, rfl⟩
  rw [hW]
  have hNF : W.ownsRow base 31 4 (.slice (some ⟨gn, 0, none⟩) ns.length cn) ns.length (cellsN (ns.modify j incN)) := by rw [← hW]; exact (HST.out.alloc _).drew
  have hOF : W.ownsRow base 3 1 (.slice (some ⟨g, 0, none⟩) (r.length + 1) c) (r.length + 1) (intsN (j :: r)) := by rw [← hW]; exact (HSO.out.alloc _).drew
  have hbF : W.heap[b]? = some (.cells #[(.slice (some ⟨gn, 0, none⟩) ns.length cn), (.slice (some ⟨g, 0, none⟩) (r.length + 1) c)] 40 (0, 0)) := by rw [← hW]; exact ((below_alloc (w.setCell ⟨gn, j * 4 + 2, none⟩ (.int .i64 (kd + 1))) (.cells #[.int .i64 k, .string t, .int .i64 0, .int .i64 q] 31)).block b (by simpa using hlt)).trans HSB.out
  have hXF : Bx W w.heap.size [.int .i64 k, .string t, .int .i64 0, .int .i64 q] := by
    have hx := (bx_new (w.setCell ⟨gn, j * 4 + 2, none⟩ (.int .i64 (kd + 1))) [.int .i64 k, .string t, .int .i64 0, .int .i64 q] 31).drew
    rw [show (w.setCell ⟨gn, j * 4 + 2, none⟩ (.int .i64 (kd + 1))).heap.size = w.heap.size by simp] at hx
    rw [← hW]; exact hx
  have HBF : Hid (Below base w W) := by unfold Hid; rw [← hW]; exact (HBB.out.alloc (by simpa using HW.out) _).drew
  have hszF : W.heap.size = w.heap.size + 1 := by rw [← hW]; simp
  clear hW
  clear hszF
  obtain ⟨Z, hZ⟩ : ∃ Z, W.heap.size = Z := ⟨_, rfl⟩
  have hbZ : b < Z := by rw [← hZ]; exact (Array.getElem?_eq_some_iff.1 hbF).1
  have hnZ : w.heap.size < Z := by rw [← hZ]; exact hXF.lt
  have hbaZ : base ≤ Z := by have := HW.out; omega
  have k0F := cell2_0 hbF
  obtain ⟨x0, x1, x2, x3⟩ := hXF.c4
  obtain ⟨i0, hinf, hz0, hz1, hz2⟩ := info_node
  have HNW : Hid (∀ i u, (nodeC (⟨k, t, 0⟩, q))[i]? = some u → ((W.alloc (.cells #[.int .i64 k, .string t, .int .i64 0, .int .i64 q] 31)).drew).cell? ((⟨Z, 0, none⟩ : Addr).add i) = some u) := by
    have h := World.news_of_block (cs := #[.int .i64 k, .string t, .int .i64 0, .int .i64 q]) (t := 31) (fr := (0, 0)) (heap_alloc_new W (.cells #[.int .i64 k, .string t, .int .i64 0, .int .i64 q] 31))
    rw [hZ] at h
    exact h
  have hbA : ((W.alloc (.cells #[.int .i64 k, .string t, .int .i64 0, .int .i64 q] 31)).drew).heap[b]? = some (.cells #[(.slice (some ⟨gn, 0, none⟩) ns.length cn), (.slice (some ⟨g, 0, none⟩) (r.length + 1) c)] 40 (0, 0)) := ((below_alloc W _).block b (by omega)).trans hbF
  have HA1 : Hid (((W.alloc (.cells #[.int .i64 k, .string t, .int .i64 0, .int .i64 q] 31)).drew).cell? ⟨b, 0, none⟩ = some (.slice (some ⟨gn, 0, none⟩) ns.length cn)) := cell2_0 hbA
  have HA3 : Hid (((W.alloc (.cells #[.int .i64 k, .string t, .int .i64 0, .int .i64 q] 31)).drew).frozen? ⟨b, 0, none⟩ = false) := frz2 hbA 0
  have hneN := own_ne hNF hbF (by decide)
  have HBA := hidG hbA
  have HOF := hidG hOF
  have HNF := hidG hNF
  clear hbA hOF hNF hXF hbF
  go_region_law
    ((refine step_append_lies _ (by rfl) _ _ _ (by rfl) base 31 i0 _ 4 40 Tryd.underlying23 hinf hz0 hz1 hz2 rfl (by omega) ((.slice (some ⟨gn, 0, none⟩) ns.length cn)) (ns.length) (cellsN (ns.modify j incN)) (by rfl) ((HNF.out.alloc _).drew)
        ⟨Z, 0, none⟩ 1 1 (nodeC (⟨k, t, 0⟩, q)) (by rfl) (by rfl) HNW.out (by simp [nodeC, Value.oneCell'])
        (by omega) (by unfold maxLen; omega) (by omega) (by simp; omega) (Z + 1) (by simp; omega) ?_; intro g4 c4 w4 hown4 hgrow4 hat4 hlt4; have d1 := (hgrow4.cell_far ⟨b, 0, none⟩ (by simp; omega) (Ne.symm hneN)).trans HA1.out; have d2 := (hgrow4.frozen_far ⟨b, 0, none⟩ (by simp; omega) (Ne.symm hneN)).trans HA3.out))
  all_goals
    have hb4 := (hgrow4.block b (by simp; omega) (Ne.symm hneN)).trans HBA.out
    have ho4 := own_apart' ((HNF.out.alloc _).drew) ((HOF.out.alloc _).drew) (by decide) hgrow4
    have HT : Hid (TR base b (addN ns (j :: r) k t q) (j :: r) (w4.setCell ⟨b, 0, none⟩ (.slice (some ⟨g4, 0, none⟩) (ns.length + 1) c4))) := by
      refine ⟨hb, _, _, heap_set20 hb4, ?_, ?_⟩
      · have e : (addN ns (j :: r) k t q).length = ns.length + 1 := by simp [addN, bump_len]
        rw [e]
        unfold addN
        rw [cellsN_snoc]
        exact own_set' hown4 (own_ne hown4 hb4 (by decide)) _ _
      · exact own_set' ho4 (own_ne ho4 hb4 (by decide)) _ _
    have HBL : Hid (Below base w (w4.setCell ⟨b, 0, none⟩ (.slice (some ⟨g4, 0, none⟩) (ns.length + 1) c4))) :=
      ((((HBF.out.alloc (by omega) _).drew).grown hgrow4 (by simp; omega) (fun k e => (HNF.out.lt k e).1))).setCell (p := ⟨b, 0, none⟩) hb _
    clear hb4 ho4 hown4 hgrow4 hat4 hlt4 d1 d2
    go_wp2_with fail
    go_ret
    exact ⟨rfl, HT.out, HBL.out⟩
set_option maxRecDepth 100000 in
set_option maxHeartbeats 4000000 in
theorem add_leaf0 (base b : Nat) (ns : List (Nd × Int)) (k : Int) (t : ByteArray) (q : Int) (w : World) (h : TR base b ns [] w) (hn : ns.length < 8000) (hk : k ≠ 1) (hbw : base ≤ w.heap.size) :
    Calls Tryd.prog 24 #[.pointer (some ⟨b, 0, none⟩), .agg #[.int .i64 k, .string t, .int .i64 0, .int .i64 q]] w fun e w' => e = .returned (.int .i64 0) ∧ TR base b (addN ns [] k t q) [] w' ∧ Below base w w' := by
  obtain ⟨hb, vn, vo, hbk, h1, h2⟩ := h
  obtain ⟨p2, c, rfl⟩ := own_shape h2
  obtain ⟨p1, cn, rfl⟩ := own_shape h1
  have k1 := cell2_1 hbk
  have k0 := cell2_0 hbk
  have hlt := (Array.getElem?_eq_some_iff.1 hbk).1
  have HST := hidG h1
  have HSO := hidG h2
  have HSB := hidG hbk
  clear h1 h2 hbk
  have e1 : (k == 1) = false := by rw [beq_eq_false_iff_ne]; exact hk
  have HW := hidG hbw
  go_enter Tryd.func24, Tryd.ntmps24
  go_wp2_with fail
  obtain ⟨W, hW⟩ : ∃ W, w.alloc (.cells #[.int .i64 k, .string t, .int .i64 0, .int .i64 q] 31) = W := ⟨_, rfl⟩
  rw [hW]
  have hNF : W.ownsRow base 31 4 (.slice p1 ns.length cn) ns.length (cellsN ns) := by rw [← hW]; exact HST.out.alloc _
  have hOF : W.ownsRow base 3 1 (.slice p2 0 c) 0 (intsN []) := by rw [← hW]; exact HSO.out.alloc _
  have hbF : W.heap[b]? = some (.cells #[(.slice p1 ns.length cn), (.slice p2 0 c)] 40 (0, 0)) := by rw [← hW]; exact ((below_alloc w (.cells #[.int .i64 k, .string t, .int .i64 0, .int .i64 q] 31)).block b hlt).trans HSB.out
  have hXF : Bx W w.heap.size [.int .i64 k, .string t, .int .i64 0, .int .i64 q] := by rw [← hW]; exact bx_new w [.int .i64 k, .string t, .int .i64 0, .int .i64 q] 31
  have HBF : Hid (Below base w W) := by unfold Hid; rw [← hW]; exact (Below.refl _ _).alloc HW.out _
  have hszF : W.heap.size = w.heap.size + 1 := by rw [← hW]; simp
  clear hW
  clear hszF
  obtain ⟨Z, hZ⟩ : ∃ Z, W.heap.size = Z := ⟨_, rfl⟩
  have hbZ : b < Z := by rw [← hZ]; exact (Array.getElem?_eq_some_iff.1 hbF).1
  have hnZ : w.heap.size < Z := by rw [← hZ]; exact hXF.lt
  have hbaZ : base ≤ Z := by have := HW.out; omega
  have k0F := cell2_0 hbF
  obtain ⟨x0, x1, x2, x3⟩ := hXF.c4
  obtain ⟨i0, hinf, hz0, hz1, hz2⟩ := info_node
  have HNW : Hid (∀ i u, (nodeC (⟨k, t, 0⟩, q))[i]? = some u → ((W.alloc (.cells #[.int .i64 k, .string t, .int .i64 0, .int .i64 q] 31)).drew).cell? ((⟨Z, 0, none⟩ : Addr).add i) = some u) := by
    have h := World.news_of_block (cs := #[.int .i64 k, .string t, .int .i64 0, .int .i64 q]) (t := 31) (fr := (0, 0)) (heap_alloc_new W (.cells #[.int .i64 k, .string t, .int .i64 0, .int .i64 q] 31))
    rw [hZ] at h
    exact h
  have hbA : ((W.alloc (.cells #[.int .i64 k, .string t, .int .i64 0, .int .i64 q] 31)).drew).heap[b]? = some (.cells #[(.slice p1 ns.length cn), (.slice p2 0 c)] 40 (0, 0)) := ((below_alloc W _).block b (by omega)).trans hbF
  have HA1 : Hid (((W.alloc (.cells #[.int .i64 k, .string t, .int .i64 0, .int .i64 q] 31)).drew).cell? ⟨b, 0, none⟩ = some (.slice p1 ns.length cn)) := cell2_0 hbA
  have HA3 : Hid (((W.alloc (.cells #[.int .i64 k, .string t, .int .i64 0, .int .i64 q] 31)).drew).frozen? ⟨b, 0, none⟩ = false) := frz2 hbA 0
  have hneN := own_ne hNF hbF (by decide)
  have HBA := hidG hbA
  have HOF := hidG hOF
  have HNF := hidG hNF
  clear hbA hOF hNF hXF hbF
  go_region_law
    ((refine step_append_lies _ (by rfl) _ _ _ (by rfl) base 31 i0 _ 4 40 Tryd.underlying23 hinf hz0 hz1 hz2 rfl (by omega) ((.slice p1 ns.length cn)) (ns.length) (cellsN ns) (by rfl) ((HNF.out.alloc _).drew)
        ⟨Z, 0, none⟩ 1 1 (nodeC (⟨k, t, 0⟩, q)) (by rfl) (by rfl) HNW.out (by simp [nodeC, Value.oneCell'])
        (by omega) (by unfold maxLen; omega) (by omega) (by simp; omega) (Z + 1) (by simp; omega) ?_; intro g4 c4 w4 hown4 hgrow4 hat4 hlt4; have d1 := (hgrow4.cell_far ⟨b, 0, none⟩ (by simp; omega) (Ne.symm hneN)).trans HA1.out; have d2 := (hgrow4.frozen_far ⟨b, 0, none⟩ (by simp; omega) (Ne.symm hneN)).trans HA3.out))
  all_goals
    have hb4 := (hgrow4.block b (by simp; omega) (Ne.symm hneN)).trans HBA.out
    have ho4 := own_apart' ((HNF.out.alloc _).drew) ((HOF.out.alloc _).drew) (by decide) hgrow4
    have HT : Hid (TR base b (addN ns [] k t q) [] (w4.setCell ⟨b, 0, none⟩ (.slice (some ⟨g4, 0, none⟩) (ns.length + 1) c4))) := by
      refine ⟨hb, _, _, heap_set20 hb4, ?_, ?_⟩
      · have e : (addN ns [] k t q).length = ns.length + 1 := by simp [addN, bump_len]
        rw [e]
        unfold addN
        rw [cellsN_snoc]
        exact own_set' hown4 (own_ne hown4 hb4 (by decide)) _ _
      · exact own_set' ho4 (own_ne ho4 hb4 (by decide)) _ _
    have HBL : Hid (Below base w (w4.setCell ⟨b, 0, none⟩ (.slice (some ⟨g4, 0, none⟩) (ns.length + 1) c4))) :=
      ((((HBF.out.alloc (by omega) _).drew).grown hgrow4 (by simp; omega) (fun k e => (HNF.out.lt k e).1))).setCell (p := ⟨b, 0, none⟩) hb _
    clear hb4 ho4 hown4 hgrow4 hat4 hlt4 d1 d2
    go_wp2_with fail
    go_ret
    exact ⟨rfl, HT.out, HBL.out⟩
set_option maxRecDepth 100000 in
set_option maxHeartbeats 4000000 in
theorem add_list (base b j : Nat) (r : List Nat) (ns : List (Nd × Int)) (t : ByteArray) (q : Int) (w : World) (h : TR base b ns (j :: r) w) (hn : ns.length < 8000) (hr : r.length + 1 < 200) (hj : j < ns.length) (hki : 0 ≤ ns[j].1.kids ∧ ns[j].1.kids ≤ 8000) (hbw : base ≤ w.heap.size) :
    Calls Tryd.prog 24 #[.pointer (some ⟨b, 0, none⟩), .agg #[.int .i64 1, .string t, .int .i64 0, .int .i64 q]] w fun e w' => e = .returned (.int .i64 0) ∧ TR base b (addN ns (j :: r) 1 t q) (ns.length :: (j :: r)) w' ∧ Below base w w' := by
  obtain ⟨hb, vn, vo, hbk, h1, h2⟩ := h
  rw [List.length_cons] at h2
  obtain ⟨g, c, rfl, hbg, hglt⟩ := h2.form (by omega)
  obtain ⟨gn, cn, rfl, hbgn, hgnlt⟩ := h1.form (by omega)
  have hcap := own_cap h2
  have hcapn := own_cap h1
  have k1 := cell2_1 hbk
  have k0 := cell2_0 hbk
  have hlt := (Array.getElem?_eq_some_iff.1 hbk).1
  have kj := h2.cellAt r.length (by omega)
  rw [intsN_last] at kj
  have kq := h1.cellAt (j * 4 + 2) (by omega)
  rw [cellsN_at ns j 2 hj (by decide)] at kq
  obtain ⟨kd, hkd⟩ : ∃ kd, ns[j].1.kids = kd := ⟨_, rfl⟩
  have kq' : w.cell? ⟨gn, j * 4 + 2, none⟩ = some (.int .i64 kd) := by rw [← hkd]; exact kq
  have fq := h1.frozenAt (j * 4 + 2)
  rw [hkd] at hki
  have hst := h1.stored (j * 4 + 2) (.int .i64 (kd + 1))
  rw [← hkd, cellsN_inc ns j hj, hkd] at hst
  have hgnb : gn ≠ b := fun e => own_ne h1 hbk (by decide) (by rw [← e]; rfl)
  have HST : Hid ((w.setCell ⟨gn, j * 4 + 2, none⟩ (.int .i64 (kd + 1))).ownsRow base 31 4 (.slice (some ⟨gn, 0, none⟩) ns.length cn) ns.length (cellsN (ns.modify j incN))) := hst.1
  have HSO : Hid ((w.setCell ⟨gn, j * 4 + 2, none⟩ (.int .i64 (kd + 1))).ownsRow base 3 1 (.slice (some ⟨g, 0, none⟩) (r.length + 1) c) (r.length + 1) (intsN (j :: r))) := own_apart' h1 h2 (by decide) hst.2
  have HSB : Hid ((w.setCell ⟨gn, j * 4 + 2, none⟩ (.int .i64 (kd + 1))).heap[b]? = some (.cells #[.slice (some ⟨gn, 0, none⟩) ns.length cn, .slice (some ⟨g, 0, none⟩) (r.length + 1) c] 40 (0, 0))) := (Below.heap_setCell w _ _ b (fun e => hgnb e.symm)).trans hbk
  have HBB : Hid (Below base w (w.setCell ⟨gn, j * 4 + 2, none⟩ (.int .i64 (kd + 1)))) := (Below.refl _ _).setCell (p := ⟨gn, j * 4 + 2, none⟩) hbgn _
  unfold maxLen at hcap hcapn
  clear kq hkd hst h1 h2 hbk
  have HW := hidG hbw
  go_enter Tryd.func24, Tryd.ntmps24
  go_wp2_with fail
  go_region
  go_wp2_with fail
  obtain ⟨W, hW⟩ : ∃ W, ((w.setCell ⟨gn, j * 4 + 2, none⟩ (.int .i64 (kd + 1))).alloc (.cells #[.int .i64 1, .string t, .int .i64 0, .int .i64 q] 31)).drew = W := ⟨_, rfl⟩
  rw [hW]
  have hNF : W.ownsRow base 31 4 (.slice (some ⟨gn, 0, none⟩) ns.length cn) ns.length (cellsN (ns.modify j incN)) := by rw [← hW]; exact (HST.out.alloc _).drew
  have hOF : W.ownsRow base 3 1 (.slice (some ⟨g, 0, none⟩) (r.length + 1) c) (r.length + 1) (intsN (j :: r)) := by rw [← hW]; exact (HSO.out.alloc _).drew
  have hbF : W.heap[b]? = some (.cells #[(.slice (some ⟨gn, 0, none⟩) ns.length cn), (.slice (some ⟨g, 0, none⟩) (r.length + 1) c)] 40 (0, 0)) := by rw [← hW]; exact ((below_alloc (w.setCell ⟨gn, j * 4 + 2, none⟩ (.int .i64 (kd + 1))) (.cells #[.int .i64 1, .string t, .int .i64 0, .int .i64 q] 31)).block b (by simpa using hlt)).trans HSB.out
  have hXF : Bx W w.heap.size [.int .i64 1, .string t, .int .i64 0, .int .i64 q] := by
    have hx := (bx_new (w.setCell ⟨gn, j * 4 + 2, none⟩ (.int .i64 (kd + 1))) [.int .i64 1, .string t, .int .i64 0, .int .i64 q] 31).drew
    rw [show (w.setCell ⟨gn, j * 4 + 2, none⟩ (.int .i64 (kd + 1))).heap.size = w.heap.size by simp] at hx
    rw [← hW]; exact hx
  have HBF : Hid (Below base w W) := by unfold Hid; rw [← hW]; exact (HBB.out.alloc (by simpa using HW.out) _).drew
  have hszF : W.heap.size = w.heap.size + 1 := by rw [← hW]; simp
  clear hW
  have k0F := cell2_0 hbF
  have k1F := cell2_1 hbF
  obtain ⟨i0, hinf, hz0, hz1, hz2⟩ := info_parts Tryd.info_int
  have HNW : Hid (∀ i u, [Value.int .i64 (ns.length : Nat)][i]? = some u → ((W.alloc (.cells #[.int .i64 (ns.length : Nat)] 3)).drew).cell? ((⟨w.heap.size + 1, 0, none⟩ : Addr).add i) = some u) := by
    have h := World.news_of_block (cs := #[.int .i64 (ns.length : Nat)]) (t := 3) (fr := (0, 0)) (heap_alloc_new W (.cells #[.int .i64 (ns.length : Nat)] 3))
    rw [hszF] at h
    exact h
  have hbA : ((W.alloc (.cells #[.int .i64 (ns.length : Nat)] 3)).drew).heap[b]? = some (.cells #[(.slice (some ⟨gn, 0, none⟩) ns.length cn), (.slice (some ⟨g, 0, none⟩) (r.length + 1) c)] 40 (0, 0)) := ((below_alloc W _).block b (by omega)).trans hbF
  have HA1 : Hid (((W.alloc (.cells #[.int .i64 (ns.length : Nat)] 3)).drew).cell? ⟨b, 1, none⟩ = some (.slice (some ⟨g, 0, none⟩) (r.length + 1) c)) := cell2_1 hbA
  have HA3 : Hid (((W.alloc (.cells #[.int .i64 (ns.length : Nat)] 3)).drew).frozen? ⟨b, 1, none⟩ = false) := frz2 hbA 1
  have hne := own_ne hOF hbF (by decide)
  have HBA := hidG hbA
  have HOF := hidG hOF
  have HNF := hidG hNF
  have HXF := hidG hXF
  clear hbA hOF hNF hXF hbF
  go_region_law
    ((refine step_append_lies _ (by rfl) _ _ _ (by rfl) base 3 i0 _ 1 8 Tryd.underlying38 hinf hz0 hz1 hz2 rfl (by omega) ((.slice (some ⟨g, 0, none⟩) (r.length + 1) c)) ((r.length + 1)) (intsN (j :: r)) (by rfl) ((HOF.out.alloc _).drew)
        ⟨w.heap.size + 1, 0, none⟩ 1 1 [.int .i64 (ns.length : Nat)] (by rfl) (by rfl) HNW.out (by simp [Value.oneCell'])
        (by omega) (by unfold maxLen; omega) (by omega) (by simp; omega) (w.heap.size + 2) (by simp; omega) ?_; intro g3 c3 w3 hown3 hgrow hat hlt3; have d1 := (hgrow.cell_far ⟨b, 1, none⟩ (by simp; omega) (Ne.symm hne)).trans HA1.out; have d2 := (hgrow.frozen_far ⟨b, 1, none⟩ (by simp; omega) (Ne.symm hne)).trans HA3.out))
  all_goals
    obtain ⟨V, hV⟩ : ∃ V, w3.setCell ⟨b, 1, none⟩ (.slice (some ⟨g3, 0, none⟩) ((r.length + 1) + 1) c3) = V := ⟨_, rfl⟩
    rw [hV]
    have hb3 := (hgrow.block b (by simp; omega) (Ne.symm hne)).trans HBA.out
    have hbF : V.heap[b]? = some (.cells #[(.slice (some ⟨gn, 0, none⟩) ns.length cn), .slice (some ⟨g3, 0, none⟩) ((r.length + 1) + 1) c3] 40 (0, 0)) := by rw [← hV]; exact heap_set2 hb3
    have hn3 := own_apart' ((HOF.out.alloc _).drew) ((HNF.out.alloc _).drew) (by decide) hgrow
    have hNF : V.ownsRow base 31 4 (.slice (some ⟨gn, 0, none⟩) ns.length cn) ns.length (cellsN (ns.modify j incN)) := by rw [← hV]; exact own_set' hn3 (own_ne hn3 hb3 (by decide)) _ _
    have hOF : V.ownsRow base 3 1 (.slice (some ⟨g3, 0, none⟩) ((r.length + 1) + 1) c3) ((r.length + 1) + 1) (intsN (ns.length :: (j :: r))) := by rw [← hV, intsN_cons]; exact own_set' hown3 (own_ne hown3 hb3 (by decide)) _ _
    have hXF : Bx V w.heap.size [.int .i64 1, .string t, .int .i64 0, .int .i64 q] := by
      rw [← hV]
      obtain ⟨ty, hx⟩ := (HXF.out.alloc (.cells #[.int .i64 (ns.length : Nat)] 3)).drew
      refine ⟨ty, ?_⟩
      rw [Below.heap_setCell w3 _ _ w.heap.size (by show w.heap.size ≠ b; omega)]
      refine (hgrow.block w.heap.size (by simp; omega) ?_).trans hx
      intro e
      have := ((HSO.out.lt) _ e.symm).2
      simp at this
    have HBF : Hid (Below base w V) := by
      unfold Hid; rw [← hV]
      exact ((((HBF.out.alloc (by omega) _).drew).grown hgrow (by simp; omega) (fun k e => (HOF.out.lt k e).1))).setCell (p := ⟨b, 1, none⟩) hb _
    have hzV : w.heap.size + 1 ≤ V.heap.size := by rw [← hV]; have := hgrow.size; simp at this ⊢; omega
    clear hV hb3 d1 d2 hgrow hat hlt3 hown3 hn3 k0F k1F hszF
    go_wp2_with fail
    obtain ⟨Z, hZ⟩ : ∃ Z, V.heap.size = Z := ⟨_, rfl⟩
    have hbZ : b < Z := by rw [← hZ]; exact (Array.getElem?_eq_some_iff.1 hbF).1
    have hnZ : w.heap.size < Z := by rw [← hZ]; exact hXF.lt
    have hbaZ : base ≤ Z := by have := HW.out; omega
    have k0F := cell2_0 hbF
    obtain ⟨x0, x1, x2, x3⟩ := hXF.c4
    obtain ⟨i0, hinf, hz0, hz1, hz2⟩ := info_node
    have HNW : Hid (∀ i u, (nodeC (⟨1, t, 0⟩, q))[i]? = some u → ((V.alloc (.cells #[.int .i64 1, .string t, .int .i64 0, .int .i64 q] 31)).drew).cell? ((⟨Z, 0, none⟩ : Addr).add i) = some u) := by
      have h := World.news_of_block (cs := #[.int .i64 1, .string t, .int .i64 0, .int .i64 q]) (t := 31) (fr := (0, 0)) (heap_alloc_new V (.cells #[.int .i64 1, .string t, .int .i64 0, .int .i64 q] 31))
      rw [hZ] at h
      exact h
    have hbA : ((V.alloc (.cells #[.int .i64 1, .string t, .int .i64 0, .int .i64 q] 31)).drew).heap[b]? = some (.cells #[(.slice (some ⟨gn, 0, none⟩) ns.length cn), (.slice (some ⟨g3, 0, none⟩) ((r.length + 1) + 1) c3)] 40 (0, 0)) := ((below_alloc V _).block b (by omega)).trans hbF
    have HA1 : Hid (((V.alloc (.cells #[.int .i64 1, .string t, .int .i64 0, .int .i64 q] 31)).drew).cell? ⟨b, 0, none⟩ = some (.slice (some ⟨gn, 0, none⟩) ns.length cn)) := cell2_0 hbA
    have HA3 : Hid (((V.alloc (.cells #[.int .i64 1, .string t, .int .i64 0, .int .i64 q] 31)).drew).frozen? ⟨b, 0, none⟩ = false) := frz2 hbA 0
    have hneN := own_ne hNF hbF (by decide)
    have HBA := hidG hbA
    have HOF := hidG hOF
    have HNF := hidG hNF
    clear hbA hOF hNF hXF hbF
    go_region_law
      ((refine step_append_lies _ (by rfl) _ _ _ (by rfl) base 31 i0 _ 4 40 Tryd.underlying23 hinf hz0 hz1 hz2 rfl (by omega) ((.slice (some ⟨gn, 0, none⟩) ns.length cn)) (ns.length) (cellsN (ns.modify j incN)) (by rfl) ((HNF.out.alloc _).drew)
          ⟨Z, 0, none⟩ 1 1 (nodeC (⟨1, t, 0⟩, q)) (by rfl) (by rfl) HNW.out (by simp [nodeC, Value.oneCell'])
          (by omega) (by unfold maxLen; omega) (by omega) (by simp; omega) (Z + 1) (by simp; omega) ?_; intro g4 c4 w4 hown4 hgrow4 hat4 hlt4; have d1 := (hgrow4.cell_far ⟨b, 0, none⟩ (by simp; omega) (Ne.symm hneN)).trans HA1.out; have d2 := (hgrow4.frozen_far ⟨b, 0, none⟩ (by simp; omega) (Ne.symm hneN)).trans HA3.out))
    all_goals
      have hb4 := (hgrow4.block b (by simp; omega) (Ne.symm hneN)).trans HBA.out
      have ho4 := own_apart' ((HNF.out.alloc _).drew) ((HOF.out.alloc _).drew) (by decide) hgrow4
      have HT : Hid (TR base b (addN ns (j :: r) 1 t q) (ns.length :: (j :: r)) (w4.setCell ⟨b, 0, none⟩ (.slice (some ⟨g4, 0, none⟩) (ns.length + 1) c4))) := by
        refine ⟨hb, _, _, heap_set20 hb4, ?_, ?_⟩
        · have e : (addN ns (j :: r) 1 t q).length = ns.length + 1 := by simp [addN, bump_len]
          rw [e]
          unfold addN
          rw [cellsN_snoc]
          exact own_set' hown4 (own_ne hown4 hb4 (by decide)) _ _
        · exact own_set' ho4 (own_ne ho4 hb4 (by decide)) _ _
      have HBL : Hid (Below base w (w4.setCell ⟨b, 0, none⟩ (.slice (some ⟨g4, 0, none⟩) (ns.length + 1) c4))) :=
        ((((HBF.out.alloc (by omega) _).drew).grown hgrow4 (by simp; omega) (fun k e => (HNF.out.lt k e).1))).setCell (p := ⟨b, 0, none⟩) hb _
      clear hb4 ho4 hown4 hgrow4 hat4 hlt4 d1 d2
      go_wp2_with fail
      go_ret
      exact ⟨rfl, HT.out, HBL.out⟩
set_option maxRecDepth 100000 in
set_option maxHeartbeats 4000000 in
theorem add_list0 (base b : Nat) (ns : List (Nd × Int)) (t : ByteArray) (q : Int) (w : World) (h : TR base b ns [] w) (hn : ns.length < 8000) (hbw : base ≤ w.heap.size) :
    Calls Tryd.prog 24 #[.pointer (some ⟨b, 0, none⟩), .agg #[.int .i64 1, .string t, .int .i64 0, .int .i64 q]] w fun e w' => e = .returned (.int .i64 0) ∧ TR base b (addN ns [] 1 t q) (ns.length :: []) w' ∧ Below base w w' := by
  obtain ⟨hb, vn, vo, hbk, h1, h2⟩ := h
  obtain ⟨p2, c, rfl⟩ := own_shape h2
  obtain ⟨p1, cn, rfl⟩ := own_shape h1
  have k1 := cell2_1 hbk
  have k0 := cell2_0 hbk
  have hlt := (Array.getElem?_eq_some_iff.1 hbk).1
  have HST := hidG h1
  have HSO := hidG h2
  have HSB := hidG hbk
  clear h1 h2 hbk
  have HW := hidG hbw
  go_enter Tryd.func24, Tryd.ntmps24
  go_wp2_with fail
  obtain ⟨W, hW⟩ : ∃ W, w.alloc (.cells #[.int .i64 1, .string t, .int .i64 0, .int .i64 q] 31) = W := ⟨_, rfl⟩
  rw [hW]
  have hNF : W.ownsRow base 31 4 (.slice p1 ns.length cn) ns.length (cellsN ns) := by rw [← hW]; exact HST.out.alloc _
  have hOF : W.ownsRow base 3 1 (.slice p2 0 c) 0 (intsN []) := by rw [← hW]; exact HSO.out.alloc _
  have hbF : W.heap[b]? = some (.cells #[(.slice p1 ns.length cn), (.slice p2 0 c)] 40 (0, 0)) := by rw [← hW]; exact ((below_alloc w (.cells #[.int .i64 1, .string t, .int .i64 0, .int .i64 q] 31)).block b hlt).trans HSB.out
  have hXF : Bx W w.heap.size [.int .i64 1, .string t, .int .i64 0, .int .i64 q] := by rw [← hW]; exact bx_new w [.int .i64 1, .string t, .int .i64 0, .int .i64 q] 31
  have HBF : Hid (Below base w W) := by unfold Hid; rw [← hW]; exact (Below.refl _ _).alloc HW.out _
  have hszF : W.heap.size = w.heap.size + 1 := by rw [← hW]; simp
  clear hW
  have k0F := cell2_0 hbF
  have k1F := cell2_1 hbF
  obtain ⟨i0, hinf, hz0, hz1, hz2⟩ := info_parts Tryd.info_int
  have HNW : Hid (∀ i u, [Value.int .i64 (ns.length : Nat)][i]? = some u → ((W.alloc (.cells #[.int .i64 (ns.length : Nat)] 3)).drew).cell? ((⟨w.heap.size + 1, 0, none⟩ : Addr).add i) = some u) := by
    have h := World.news_of_block (cs := #[.int .i64 (ns.length : Nat)]) (t := 3) (fr := (0, 0)) (heap_alloc_new W (.cells #[.int .i64 (ns.length : Nat)] 3))
    rw [hszF] at h
    exact h
  have hbA : ((W.alloc (.cells #[.int .i64 (ns.length : Nat)] 3)).drew).heap[b]? = some (.cells #[(.slice p1 ns.length cn), (.slice p2 0 c)] 40 (0, 0)) := ((below_alloc W _).block b (by omega)).trans hbF
  have HA1 : Hid (((W.alloc (.cells #[.int .i64 (ns.length : Nat)] 3)).drew).cell? ⟨b, 1, none⟩ = some (.slice p2 0 c)) := cell2_1 hbA
  have HA3 : Hid (((W.alloc (.cells #[.int .i64 (ns.length : Nat)] 3)).drew).frozen? ⟨b, 1, none⟩ = false) := frz2 hbA 1
  have hne := own_ne hOF hbF (by decide)
  have HBA := hidG hbA
  have HOF := hidG hOF
  have HNF := hidG hNF
  have HXF := hidG hXF
  clear hbA hOF hNF hXF hbF
  go_region_law
    ((refine step_append_lies _ (by rfl) _ _ _ (by rfl) base 3 i0 _ 1 8 Tryd.underlying38 hinf hz0 hz1 hz2 rfl (by omega) ((.slice p2 0 c)) (0) (intsN []) (by rfl) ((HOF.out.alloc _).drew)
        ⟨w.heap.size + 1, 0, none⟩ 1 1 [.int .i64 (ns.length : Nat)] (by rfl) (by rfl) HNW.out (by simp [Value.oneCell'])
        (by omega) (by unfold maxLen; omega) (by omega) (by simp; omega) (w.heap.size + 2) (by simp; omega) ?_; intro g3 c3 w3 hown3 hgrow hat hlt3; have d1 := (hgrow.cell_far ⟨b, 1, none⟩ (by simp; omega) (Ne.symm hne)).trans HA1.out; have d2 := (hgrow.frozen_far ⟨b, 1, none⟩ (by simp; omega) (Ne.symm hne)).trans HA3.out))
  all_goals
    obtain ⟨V, hV⟩ : ∃ V, w3.setCell ⟨b, 1, none⟩ (.slice (some ⟨g3, 0, none⟩) (0 + 1) c3) = V := ⟨_, rfl⟩
    rw [hV]
    have hb3 := (hgrow.block b (by simp; omega) (Ne.symm hne)).trans HBA.out
    have hbF : V.heap[b]? = some (.cells #[(.slice p1 ns.length cn), .slice (some ⟨g3, 0, none⟩) (0 + 1) c3] 40 (0, 0)) := by rw [← hV]; exact heap_set2 hb3
    have hn3 := own_apart' ((HOF.out.alloc _).drew) ((HNF.out.alloc _).drew) (by decide) hgrow
    have hNF : V.ownsRow base 31 4 (.slice p1 ns.length cn) ns.length (cellsN ns) := by rw [← hV]; exact own_set' hn3 (own_ne hn3 hb3 (by decide)) _ _
    have hOF : V.ownsRow base 3 1 (.slice (some ⟨g3, 0, none⟩) (0 + 1) c3) (0 + 1) (intsN (ns.length :: [])) := by rw [← hV, intsN_cons]; exact own_set' hown3 (own_ne hown3 hb3 (by decide)) _ _
    have hXF : Bx V w.heap.size [.int .i64 1, .string t, .int .i64 0, .int .i64 q] := by
      rw [← hV]
      obtain ⟨ty, hx⟩ := (HXF.out.alloc (.cells #[.int .i64 (ns.length : Nat)] 3)).drew
      refine ⟨ty, ?_⟩
      rw [Below.heap_setCell w3 _ _ w.heap.size (by show w.heap.size ≠ b; omega)]
      refine (hgrow.block w.heap.size (by simp; omega) ?_).trans hx
      intro e
      have := ((HSO.out.lt) _ e.symm).2
      simp at this
    have HBF : Hid (Below base w V) := by
      unfold Hid; rw [← hV]
      exact ((((HBF.out.alloc (by omega) _).drew).grown hgrow (by simp; omega) (fun k e => (HOF.out.lt k e).1))).setCell (p := ⟨b, 1, none⟩) hb _
    have hzV : w.heap.size + 1 ≤ V.heap.size := by rw [← hV]; have := hgrow.size; simp at this ⊢; omega
    clear hV hb3 d1 d2 hgrow hat hlt3 hown3 hn3 k0F k1F hszF
    go_wp2_with fail
    obtain ⟨Z, hZ⟩ : ∃ Z, V.heap.size = Z := ⟨_, rfl⟩
    have hbZ : b < Z := by rw [← hZ]; exact (Array.getElem?_eq_some_iff.1 hbF).1
    have hnZ : w.heap.size < Z := by rw [← hZ]; exact hXF.lt
    have hbaZ : base ≤ Z := by have := HW.out; omega
    have k0F := cell2_0 hbF
    obtain ⟨x0, x1, x2, x3⟩ := hXF.c4
    obtain ⟨i0, hinf, hz0, hz1, hz2⟩ := info_node
    have HNW : Hid (∀ i u, (nodeC (⟨1, t, 0⟩, q))[i]? = some u → ((V.alloc (.cells #[.int .i64 1, .string t, .int .i64 0, .int .i64 q] 31)).drew).cell? ((⟨Z, 0, none⟩ : Addr).add i) = some u) := by
      have h := World.news_of_block (cs := #[.int .i64 1, .string t, .int .i64 0, .int .i64 q]) (t := 31) (fr := (0, 0)) (heap_alloc_new V (.cells #[.int .i64 1, .string t, .int .i64 0, .int .i64 q] 31))
      rw [hZ] at h
      exact h
    have hbA : ((V.alloc (.cells #[.int .i64 1, .string t, .int .i64 0, .int .i64 q] 31)).drew).heap[b]? = some (.cells #[(.slice p1 ns.length cn), (.slice (some ⟨g3, 0, none⟩) (0 + 1) c3)] 40 (0, 0)) := ((below_alloc V _).block b (by omega)).trans hbF
    have HA1 : Hid (((V.alloc (.cells #[.int .i64 1, .string t, .int .i64 0, .int .i64 q] 31)).drew).cell? ⟨b, 0, none⟩ = some (.slice p1 ns.length cn)) := cell2_0 hbA
    have HA3 : Hid (((V.alloc (.cells #[.int .i64 1, .string t, .int .i64 0, .int .i64 q] 31)).drew).frozen? ⟨b, 0, none⟩ = false) := frz2 hbA 0
    have hneN := own_ne hNF hbF (by decide)
    have HBA := hidG hbA
    have HOF := hidG hOF
    have HNF := hidG hNF
    clear hbA hOF hNF hXF hbF
    go_region_law
      ((refine step_append_lies _ (by rfl) _ _ _ (by rfl) base 31 i0 _ 4 40 Tryd.underlying23 hinf hz0 hz1 hz2 rfl (by omega) ((.slice p1 ns.length cn)) (ns.length) (cellsN ns) (by rfl) ((HNF.out.alloc _).drew)
          ⟨Z, 0, none⟩ 1 1 (nodeC (⟨1, t, 0⟩, q)) (by rfl) (by rfl) HNW.out (by simp [nodeC, Value.oneCell'])
          (by omega) (by unfold maxLen; omega) (by omega) (by simp; omega) (Z + 1) (by simp; omega) ?_; intro g4 c4 w4 hown4 hgrow4 hat4 hlt4; have d1 := (hgrow4.cell_far ⟨b, 0, none⟩ (by simp; omega) (Ne.symm hneN)).trans HA1.out; have d2 := (hgrow4.frozen_far ⟨b, 0, none⟩ (by simp; omega) (Ne.symm hneN)).trans HA3.out))
    all_goals
      have hb4 := (hgrow4.block b (by simp; omega) (Ne.symm hneN)).trans HBA.out
      have ho4 := own_apart' ((HNF.out.alloc _).drew) ((HOF.out.alloc _).drew) (by decide) hgrow4
      have HT : Hid (TR base b (addN ns [] 1 t q) (ns.length :: []) (w4.setCell ⟨b, 0, none⟩ (.slice (some ⟨g4, 0, none⟩) (ns.length + 1) c4))) := by
        refine ⟨hb, _, _, heap_set20 hb4, ?_, ?_⟩
        · have e : (addN ns [] 1 t q).length = ns.length + 1 := by simp [addN, bump_len]
          rw [e]
          unfold addN
          rw [cellsN_snoc]
          exact own_set' hown4 (own_ne hown4 hb4 (by decide)) _ _
        · exact own_set' ho4 (own_ne ho4 hb4 (by decide)) _ _
      have HBL : Hid (Below base w (w4.setCell ⟨b, 0, none⟩ (.slice (some ⟨g4, 0, none⟩) (ns.length + 1) c4))) :=
        ((((HBF.out.alloc (by omega) _).drew).grown hgrow4 (by simp; omega) (fun k e => (HNF.out.lt k e).1))).setCell (p := ⟨b, 0, none⟩) hb _
      clear hb4 ho4 hown4 hgrow4 hat4 hlt4 d1 d2
      go_wp2_with fail
      go_ret
      exact ⟨rfl, HT.out, HBL.out⟩
end Go.Proofs.YtdngpnlbhadbpaaDoor
namespace Go.Proofs.YtdngpnlbhadbpaaDoor
open Go.ChangeShapes Go.WideShapes Go.ChangeAt Go.RowKit
theorem add_any (base b z : Nat) (st : RS) (k : Int) (t : ByteArray) (q : Int) (w : World) (h : TR base b st.ns st.op w) (hi : Inv z st) (hbw : base ≤ w.heap.size) :
    Calls Tryd.prog 24 #[.pointer (some ⟨b, 0, none⟩), .agg #[.int .i64 k, .string t, .int .i64 0, .int .i64 q]] w fun e w' => e = .returned (.int .i64 (addE st.ns st.op k)) ∧ (addE st.ns st.op k = 0 → TR base b (addN st.ns st.op k t q) (addO st.ns st.op k) w') ∧ Below base w w' := by
  obtain ⟨i, ns, op⟩ := st
  have hn := hi.n
  have ho := hi.o
  dsimp only at h hn ho ⊢
  by_cases h8 : ns.length = 8000
  · have hE : addE ns op k = 5 := by unfold addE; rw [if_pos h8]
    refine (add_many base b ns op k t q w h h8 hbw).mono ?_
    rintro e w' ⟨rfl, hb⟩
    rw [hE]
    exact ⟨rfl, (fun e => absurd e (by decide)), hb⟩
  by_cases hk : k = 1
  · subst hk
    by_cases h2 : op.length = 200
    · have hE : addE ns op 1 = 6 := by unfold addE; rw [if_neg h8, if_pos ⟨rfl, h2⟩]
      refine (add_deep base b ns op t q w h (by omega) h2 hbw).mono ?_
      rintro e w' ⟨rfl, hb⟩
      rw [hE]
      exact ⟨rfl, (fun e => absurd e (by decide)), hb⟩
    · have hE : addE ns op 1 = 0 := by unfold addE; rw [if_neg h8, if_neg (fun e => h2 e.2)]
      have hO : addO ns op 1 = ns.length :: op := by unfold addO; rw [if_pos rfl]
      rw [hE, hO]
      cases op with
      | nil =>
        refine (add_list0 base b ns t q w h (by omega) hbw).mono ?_
        rintro e w' ⟨rfl, h1, hb⟩
        exact ⟨rfl, fun _ => h1, hb⟩
      | cons j r =>
        have hj := hi.j j (by simp)
        have hkk := hi.k ns[j] (List.getElem_mem _)
        dsimp only at hj hkk
        rw [List.length_cons] at h2 ho
        refine (add_list base b j r ns t q w h (by omega) (by omega) hj ⟨hkk.1, by omega⟩ hbw).mono ?_
        rintro e w' ⟨rfl, h1, hb⟩
        exact ⟨rfl, fun _ => h1, hb⟩
  · have hE : addE ns op k = 0 := by unfold addE; rw [if_neg h8, if_neg (fun e => hk e.1)]
    have hO : addO ns op k = op := by unfold addO; rw [if_neg hk]
    rw [hE, hO]
    cases op with
    | nil =>
      refine (add_leaf0 base b ns k t q w h (by omega) hk hbw).mono ?_
      rintro e w' ⟨rfl, h1, hb⟩
      exact ⟨rfl, fun _ => h1, hb⟩
    | cons j r =>
      have hj := hi.j j (by simp)
      have hkk := hi.k ns[j] (List.getElem_mem _)
      dsimp only at hj hkk
      rw [List.length_cons] at ho
      refine (add_leaf base b j r ns k t q w h (by omega) ho hj ⟨hkk.1, by omega⟩ hk hbw).mono ?_
      rintro e w' ⟨rfl, h1, hb⟩
      exact ⟨rfl, fun _ => h1, hb⟩
/-- What a reader's call ends with. -/
def ResP (base : Nat) (R : RR) (e : Ending) (w : World) : Prop := match R with
  | .inl (c, q) => e = resE c q
  | .inr ns => ∃ v, e = .returned (.agg #[.int .i64 0, .int .i64 0, v]) ∧ w.ownsRow base 31 4 v ns.length (cellsN ns)
theorem result_any (base b z : Nat) (st : RS) (w : World) (h : TR base b st.ns st.op w) (hi : Inv z st) (hbw : base ≤ w.heap.size) :
    Calls Tryd.prog 25 #[.pointer (some ⟨b, 0, none⟩)] w fun e w' => ResP base (endM st.ns st.op) e w' ∧ Below base w w' := by
  obtain ⟨i, ns, op⟩ := st
  have hn := hi.n
  have ho := hi.o
  dsimp only at h hn ho ⊢
  cases op with
  | nil =>
    refine (result_ok base b ns w h hbw).mono ?_
    rintro e w' ⟨h1, hb⟩
    exact ⟨h1, hb⟩
  | cons j r =>
    have hj := hi.j j (by simp)
    dsimp only at hj
    rw [List.length_cons] at ho
    refine (result_open base b j r ns w h hj (by omega) hn hbw).mono ?_
    rintro e w' ⟨h1, hb⟩
    exact ⟨h1, hb⟩
/-- What is read of a text. -/
def ReadsTo (S : ByteArray) (R : RR) : Prop := (20000 < S.size ∧ R = RR.err 1 0) ∨ (S.size ≤ 20000 ∧ Run S.data.toList ⟨0, [], []⟩ R)
theorem reads_some (S : ByteArray) : ∃ R, ReadsTo S R := by
  by_cases h : S.size ≤ 20000
  · obtain ⟨R, hR⟩ := run_all S _ ⟨0, [], []⟩ (Nat.le_refl _)
    exact ⟨R, .inr ⟨h, hR⟩⟩
  · exact ⟨_, .inl ⟨by omega, rfl⟩⟩
end Go.Proofs.YtdngpnlbhadbpaaDoor
namespace Go.Proofs.YtdngpnlbhadbpaaDoor
open Go.ChangeShapes Go.WideShapes Go.ChangeAt Go.RowKit
theorem tr_new (w : World) : TR (w.heap.size + 1) (w.heap.size + 1) [] [] ((w.alloc (.cells #[.int .i64 0, .int .i64 0, .slice none 0 0] 28)).alloc (.cells #[.slice none 0 0, .slice none 0 0] 40)) := by
  refine ⟨Nat.le_refl _, _, _, ?_, World.ownsRow_nil _ _ _ _, World.ownsRow_nil _ _ _ _⟩
  have := heap_alloc_new (w.alloc (.cells #[.int .i64 0, .int .i64 0, .slice none 0 0] 28)) (.cells #[.slice none 0 0, .slice none 0 0] 40)
  simpa using this
theorem own_base {W : World} {base base' : Nat} {e : TypeId} {sz : Nat} {v : Value} {n : Nat} {xs : List Value} (h : W.ownsRow base e sz v n xs) (hb : base' ≤ base) : W.ownsRow base' e sz v n xs := by
  refine ⟨h.1, ?_⟩
  rcases h.2 with h0 | ⟨g, cap, cur, rfl, h1, h2, h3⟩
  · exact .inl h0
  · exact .inr ⟨g, cap, cur, rfl, by omega, h2, h3⟩
theorem own_low {W : World} {base b : Nat} {e : TypeId} {sz : Nat} {v : Value} {n : Nat} {xs : List Value} (h : W.ownsRow base e sz v n xs) (hb : b < base) : v.ownBlock ≠ some b := fun e => by have := (h.lt _ e).1; omega
theorem TR.below {base b : Nat} {ns : List (Nd × Int)} {op : List Nat} {w w' : World} (h : TR base b ns op w) (hb : Below w.heap.size w w') : TR base b ns op w' := by
  obtain ⟨h0, vn, vo, h1, h2, h3⟩ := h
  exact ⟨h0, vn, vo, (hb.block b (Array.getElem?_eq_some_iff.1 h1).1).trans h1, own_other' h2 (fun g hg => hb.block g (h2.lt g hg).2), own_other' h3 (fun g hg => hb.block g (h3.lt g hg).2)⟩
theorem ResP.err {base : Nat} {R : RR} {c q : Int} {w : World} (h : RR.err c q = R) : ResP base R (resE c q) w := by subst h; rfl
set_option maxRecDepth 100000 in
set_option maxHeartbeats 1000000 in
theorem strIndex_any (s : ByteArray) (c : Int) (w : World) :
    Calls Tryd.prog 21 #[.string s, .int .u8 c] w fun e w' => e = .returned (.int .i64 (Lib.indexByte s.data.toList c.toNat.toUInt8)) ∧ w' = w := by
  go_enter Tryd.func21, Tryd.ntmps21
  go_wp2_with (go_at_call 45; refine (indexByte_any _ _ _).mono ?_; rintro e w' ⟨rfl, rfl⟩)
  go_ret
  exact ⟨rfl, rfl⟩
theorem idx10 : ∀ l : List UInt8, Lib.indexByte l 10 = if runL noteB l < l.length then (runL noteB l : Int) else -1
  | [] => rfl
  | c :: r => by
    have ih := idx10 r
    by_cases hc : c = 10
    · subst hc
      have : noteB 10 = false := by decide
      simp [Lib.indexByte, runL, this]
    · have hn : noteB c = true := by
        unfold noteB
        rw [Bool.not_eq_true', decide_eq_false_iff_not]
        intro e; apply hc; exact u8_is (d := 10) e
      have e1 : Lib.indexByte (c :: r) 10 = if Lib.indexByte r 10 == -1 then -1 else Lib.indexByte r 10 + 1 := by simp [Lib.indexByte, hc]
      have e2 : runL noteB (c :: r) = runL noteB r + 1 := by simp [runL, hn]
      rw [e1, e2, ih, List.length_cons]
      by_cases hl : runL noteB r < r.length
      · rw [if_pos hl, if_pos (show runL noteB r + 1 < r.length + 1 by omega), if_neg (by rw [beq_iff_eq]; omega)]; omega
      · rw [if_neg hl, if_neg (show ¬ runL noteB r + 1 < r.length + 1 by omega)]; rfl
set_option maxRecDepth 100000 in
set_option maxHeartbeats 8000000 in
theorem readTree_impl_long (S : ByteArray) (w : World) (hS : S.size ≤ 1048576) (hs : 20000 < S.size) :
    Calls Tryd.prog 11 #[.string S] w fun e w' => ResP w.heap.size (RR.err 1 0) e w' ∧ Below w.heap.size w w' := by
  go_enter Tryd.func11, Tryd.ntmps11
  go_wp2_with fail
  go_step3
  go_wp2_with fail
  rw [Exit.noGoto_ret]
  refine bodyPost_ret (v := .agg #[.int .i64 1, .int .i64 0, .slice none 0 0]) ?_ rfl ⟨rfl, below_alloc _ _⟩
  simp [results, Tryd.results11, go_sem]
/-- A result's form: what it says bears a change of lower blocks. -/
theorem res_form {base : Nat} {R : RR} {e : Ending} {w : World} (h : ResP base R e w) : ∃ f0 f1 va vn vc, e = .returned (.agg #[.int .i64 f0, .int .i64 f1, .slice va vn vc]) ∧
    ∀ (base' _n : Nat) (w' : World), base' ≤ base → (∀ g, base ≤ g → w'.heap[g]? = w.heap[g]?) → ResP base' R (.returned (.agg #[.int .i64 f0, .int .i64 f1, .slice va vn vc])) w' := by
  rcases R with ⟨c, q⟩ | ns
  · exact ⟨c, q, none, 0, 0, h, fun _ _ _ _ _ => rfl⟩
  · obtain ⟨v, rfl, ho⟩ := h
    obtain ⟨va, vc, rfl⟩ := own_shape ho
    refine ⟨0, 0, va, _, vc, rfl, fun base' _ w' hb hk => ⟨_, rfl, ?_⟩⟩
    exact own_base (own_other' ho (fun g hg => hk g (ho.lt g hg).1)) hb
theorem tail_facts {S : ByteArray} {i : Nat} (h : i < S.size) : ∃ T : ByteArray, S.extract i S.size = T ∧ T.data.toList = S.data.toList.drop i ∧ T.size = S.size - i ∧ ∃ h0 : 0 < T.size, T[0] = S[i] := by
  obtain ⟨U, h1, h2, h3⟩ := tail_ex S i (by omega)
  refine ⟨U, by rw [show S.size = U.size + i by omega]; exact h1, h3, by omega, by omega, ?_⟩
  have h0 : 0 < U.size := by omega
  have := at_list h0
  rw [h3, List.getElem?_drop, Nat.add_zero, at_list h] at this
  exact (Option.some.inj this).symm
set_option maxRecDepth 100000 in
set_option maxHeartbeats 8000000 in
theorem readTree_impl (S : ByteArray) (R : RR) (w : World) (hs : S.size ≤ 20000) (hR : Run S.data.toList ⟨0, [], []⟩ R) :
    Calls Tryd.prog 11 #[.string S] w fun e w' => ResP w.heap.size R e w' ∧ Below w.heap.size w w' := by
  have HR := hidG hR
  clear hR
  go_enter Tryd.func11, Tryd.ntmps11
  go_wp2_with fail
  go_step3
  go_wp2_with fail
  go_step3
  go_wp2_with fail
  go_loopw [4] (fun av wr => ∃ st : RS, av = .int .i64 (st.i : Nat) ∧ Inv S.size st ∧ Run S.data.toList st R ∧ TR (w.heap.size + 1) (w.heap.size + 1) st.ns st.op wr ∧ Bx wr w.heap.size [.int .i64 0, .int .i64 0, .slice none 0 0] ∧ Below w.heap.size w wr ∧ w.heap.size + 2 ≤ wr.heap.size) (fun av _ => S.size - (intOf av).toNat)
  case atStart => exact ⟨⟨0, [], []⟩, rfl, inv_new _, HR.out, tr_new w, (bx_new w _ _).alloc _, (below_alloc _ _).alloc (by simp) _, by simp⟩
  case round =>
    obtain ⟨st, rfl, hin, hrun, htr, hbx, hbe, hsz⟩ := hrel
    have HIN := hidG hin
    have HRUN := hidG hrun
    have HTR := hidG htr
    have HX := hidG hbx
    have HB := hidG hbe
    have hi20 : st.i ≤ 20000 := by have := hin.i; omega
    have hiS := hin.i
    obtain ⟨c0, c1, c2⟩ := hbx.c3
    have g0 := hbx.frozen 0
    have g1 := hbx.frozen 1
    have g2 := hbx.frozen 2
    clear hin hrun htr hbx hbe
    by_cases hlt : st.i < S.size
    · have hstep := step_c hlt
      unfold stepC at hstep
      by_cases hbl : blankB S[st.i] = true
      · rw [if_pos hbl] at hstep
        have HN := hidG (HRUN.out.go hstep)
        have HK : Hid (tokB S[st.i] = 1) := by
          unfold blankB at hbl
          simp only [Bool.or_eq_true, decide_eq_true_eq] at hbl
          unfold Hid tokB; rw [if_pos (by omega)]
        clear hstep hbl c0 c1 c2 g0 g1 g2
        go_wp2_with (go_at_call 20; refine (tokenBegun_any S[st.i] _).mono ?_; rintro e w' ⟨rfl, rfl⟩; rw [HK.out])
        go_roundw
        case rel => exact ⟨⟨st.i + 1, st.ns, st.op⟩, by go_num, inv_at HIN.out hlt, HN.out, HTR.out, HX.out, HB.out, hsz⟩
        case measure => simp [intOf]; omega
      rw [if_neg hbl] at hstep
      have hbl' : blankB S[st.i] = false := by simpa using hbl
      have hb4 : ¬ (S[st.i].toNat = 32 ∨ S[st.i].toNat = 9 ∨ S[st.i].toNat = 10 ∨ S[st.i].toNat = 13) := by
        have := hbl'
        unfold blankB at this
        simp only [Bool.or_eq_false_iff, decide_eq_false_iff_not] at this
        omega
      obtain ⟨T, hT1, hT2, hT3, hT0, hT4⟩ := tail_facts hlt
      have HT1 := hidG hT1
      by_cases h59 : S[st.i].toNat = 59
      · rw [if_pos h59] at hstep
        have HN := hidG (HRUN.out.go hstep)
        have HK : Hid (tokB S[st.i] = 2) := by unfold Hid tokB; rw [if_neg hb4, if_pos h59]
        have hix := idx10 T.data.toList
        obtain ⟨m, hm⟩ : ∃ m, runL noteB (S.data.toList.drop st.i) = m := ⟨_, rfl⟩
        have hml := runL_le noteB (S.data.toList.drop st.i)
        rw [hT2, hm, List.length_drop, ← Lib.size_eq] at hix
        rw [hm, List.length_drop, ← Lib.size_eq] at hml
        rw [hm] at HN
        have hm0 : 0 < m := by
          rw [← hm, drop_at hlt]; unfold runL; rw [if_pos (by unfold noteB; rw [h59]; rfl)]; omega
        clear hstep hbl hbl' hb4 h59 hT1 hT4
        by_cases hmm : m < S.size - st.i
        · rw [if_pos hmm] at hix
          have HIX : Hid (Lib.indexByte T.data.toList 10 = (m : Int)) := by unfold Hid; rw [hT2]; exact hix
          clear hix hm hT2 c0 c1 c2 g0 g1 g2
          go_wp2_with (first | (go_at_call 20; refine (tokenBegun_any S[st.i] _).mono ?_; rintro e w' ⟨rfl, rfl⟩; rw [HK.out]) | (go_at_call 21; rw [HT1.out]; refine (strIndex_any T _ _).mono ?_; rintro e w' ⟨rfl, rfl⟩; rw [show (10 : Int).toNat.toUInt8 = 10 from rfl, HIX.out]))
          go_roundw
          case rel => exact ⟨⟨st.i + m, st.ns, st.op⟩, by go_num, inv_at HIN.out (by omega), HN.out, HTR.out, HX.out, HB.out, hsz⟩
          case measure => simp [intOf]; omega
        · rw [if_neg hmm] at hix
          have HIX : Hid (Lib.indexByte T.data.toList 10 = -1) := by unfold Hid; rw [hT2]; exact hix
          have HEND := HN.out.fin (step_end (S := S) (st := ⟨st.i + m, st.ns, st.op⟩) (by show ¬ st.i + m < S.size; omega))
          clear hix hm hT2 c0 c1 c2 g0 g1 g2
          dsimp only at HEND
          have HEN := hidG HEND
          clear HEND
          go_wp2_with (first | (go_at_call 20; refine (tokenBegun_any S[st.i] _).mono ?_; rintro e w' ⟨rfl, rfl⟩; rw [HK.out]) | (go_at_call 21; rw [HT1.out]; refine (strIndex_any T _ _).mono ?_; rintro e w' ⟨rfl, rfl⟩; rw [show (10 : Int).toNat.toUInt8 = 10 from rfl, HIX.out]) | (go_at_call 25; refine (result_any _ _ S.size st _ HTR.out HIN.out (by omega)).mono ?_; rintro e w2 ⟨hres, hb2⟩; obtain ⟨f0, f1, va, vn, vc, rfl, hrp⟩ := res_form hres; have HRP := hidG hrp; clear hrp; have hx2 := HX.out.below (N := w.heap.size + 1) (by omega) hb2; have HX2 := hidG hx2; have HB2 : Hid (Below w.heap.size w w2) := HB.out.trans (hb2.mono (by omega)); obtain ⟨c0, c1, c2⟩ := hx2.c3; have g0 := hx2.frozen 0; have g1 := hx2.frozen 1; have g2 := hx2.frozen 2; clear hb2 hx2 hres))
          have hx4 := (((HX2.out.set 0 (.int .i64 f0)).set 1 (.int .i64 f1)).set 2 (.slice va vn vc))
          obtain ⟨e0, e1, e2⟩ := hx4.c3
          try rw [Exit.noGoto_ret]
          refine bodyPost_ret (v := .agg #[.int .i64 f0, .int .i64 f1, .slice va vn vc]) ?_ rfl ⟨?_, (((HB2.out.setCell (p := ⟨w.heap.size, 0, none⟩) (Nat.le_refl _) _).setCell (p := ⟨w.heap.size, 1, none⟩) (Nat.le_refl _) _).setCell (p := ⟨w.heap.size, 2, none⟩) (Nat.le_refl _) _)⟩
          · clear c0 c1 c2 g0 g1 g2
            simp [results, Tryd.results11, go_sem, e0, e1, e2]
          · have h5 := HRP.out (w.heap.size) w.heap.size ((((w2.setCell ⟨w.heap.size, 0, none⟩ (.int .i64 f0)).setCell ⟨w.heap.size, 1, none⟩ (.int .i64 f1)).setCell ⟨w.heap.size, 2, none⟩ (.slice va vn vc))) (by omega) (fun g hg => by rw [Below.heap_setCell _ _ _ g (by show g ≠ w.heap.size; omega), Below.heap_setCell _ _ _ g (by show g ≠ w.heap.size; omega), Below.heap_setCell _ _ _ g (by show g ≠ w.heap.size; omega)])
            rw [HEN.out] at h5; exact h5
      rw [if_neg h59] at hstep
      by_cases h41 : S[st.i].toNat = 41
      · rw [if_pos h41] at hstep
        have HK : Hid (tokB S[st.i] = 3) := by unfold Hid tokB; rw [if_neg hb4, if_neg h59, if_pos h41]
        clear hbl hbl' hb4 h59 h41 hT1 hT2 hT4
        unfold closeM at hstep
        cases hop : st.op with
        | nil =>
          rw [hop] at hstep
          have HE := hidG (HRUN.out.fin hstep)
          have HTR0 : Hid (TR (w.heap.size + 1) (w.heap.size + 1) st.ns [] wr) := by unfold Hid; rw [← hop]; exact HTR.out
          clear hstep hop
          go_wp2_with (first | (go_at_call 20; refine (tokenBegun_any S[st.i] _).mono ?_; rintro e w' ⟨rfl, rfl⟩; rw [HK.out]) | (go_at_call 22; refine (close_no _ _ st.ns _ HTR0.out).mono ?_; rintro e w' ⟨rfl, rfl⟩))
          have hx4 := (((HX.out.set 0 (.int .i64 4)).set 1 (.int .i64 (st.i : Nat))).set 2 (.slice none 0 0))
          obtain ⟨e0, e1, e2⟩ := hx4.c3
          try rw [Exit.noGoto_ret]
          refine bodyPost_ret (v := .agg #[.int .i64 4, .int .i64 (st.i : Nat), .slice none 0 0]) ?_ rfl ⟨ResP.err HE.out, (((HB.out.setCell (p := ⟨w.heap.size, 0, none⟩) (Nat.le_refl _) _).setCell (p := ⟨w.heap.size, 1, none⟩) (Nat.le_refl _) _).setCell (p := ⟨w.heap.size, 2, none⟩) (Nat.le_refl _) _)⟩
          clear c0 c1 c2 g0 g1 g2
          simp [results, Tryd.results11, go_sem, e0, e1, e2]
        | cons j r =>
          rw [hop] at hstep
          have HN := hidG (HRUN.out.go hstep)
          have HIN2 : Hid (Inv S.size ⟨st.i + 1, st.ns, r⟩) := inv_cut HIN.out hop hlt
          have HTR0 : Hid (TR (w.heap.size + 1) (w.heap.size + 1) st.ns (j :: r) wr) := by unfold Hid; rw [← hop]; exact HTR.out
          have hrl : r.length ≤ 200 := by have := HIN.out.o; rw [hop, List.length_cons] at this; omega
          clear hstep hop c0 c1 c2 g0 g1 g2
          go_wp2_with (first | (go_at_call 20; refine (tokenBegun_any S[st.i] _).mono ?_; rintro e w' ⟨rfl, rfl⟩; rw [HK.out]) | (go_at_call 22; refine (close_yes _ _ j r st.ns _ HTR0.out hrl).mono ?_; rintro e w2 ⟨rfl, htr2, hb2⟩; have HTR2 := hidG htr2; have HB2 := hidG hb2; clear htr2 hb2))
          go_roundw
          case rel => exact ⟨⟨st.i + 1, st.ns, r⟩, by go_num, HIN2.out, HN.out, HTR2.out, HX.out.below (N := w.heap.size + 1) (by omega) HB2.out, HB.out.trans (HB2.out.mono (by omega)), by have := HB2.out.size; omega⟩
          case measure => simp [intOf]; omega
      rw [if_neg h41] at hstep
      have hsc : ∀ w, Calls Tryd.prog 23 #[.int .i64 (tokB S[st.i]), .string T] w fun e w' => e = implR (nodeL (S.data.toList.drop st.i)) ∧ Below w.heap.size w w' := fun w => by
        have := scanNode_any T w (by omega) hT0 (by rw [hT4]; exact hbl') (by rw [hT4]; exact h59) (by rw [hT4]; exact h41)
        rw [hT4, hT2] at this; exact this
      obtain ⟨K, hK⟩ : ∃ K, tokB S[st.i] = K := ⟨_, rfl⟩
      rw [hK] at hsc
      have HK := hidG hK
      have hk3 : K ≠ 1 ∧ K ≠ 2 ∧ K ≠ 3 := by
        rw [← hK]; unfold tokB
        rw [if_neg hb4, if_neg h59, if_neg h41]
        repeat' split
        all_goals decide
      have y1 : (K == 1) = false := by rw [beq_eq_false_iff_ne]; exact hk3.1
      have y2 : (K == 2) = false := by rw [beq_eq_false_iff_ne]; exact hk3.2.1
      have y3 : (K == 3) = false := by rw [beq_eq_false_iff_ne]; exact hk3.2.2
      clear hbl hbl' hb4 h59 h41 hT1 hT4 hK hk3
      cases hnl : nodeL (S.data.toList.drop st.i) with
      | none =>
        rw [hnl] at hstep hsc
        have HSC := hidG hsc
        have HE := hidG (HRUN.out.fin hstep)
        clear hstep hnl hsc hT2 c0 c1 c2 g0 g1 g2
        go_wp2_with (first | (go_at_call 20; refine (tokenBegun_any S[st.i] _).mono ?_; rintro e w' ⟨rfl, hw⟩; have hw2 := hw.symm; subst hw2; clear hw; rw [HK.out]) | (go_at_call 23; rw [HT1.out]; refine (HSC.out _).mono ?_; rintro e w2 ⟨he, hb2⟩; unfold implR resN at he; subst he; have hx2 := HX.out.below (N := wr.heap.size) (by omega) hb2; have HX2 := hidG hx2; have HB2 : Hid (Below w.heap.size w w2) := HB.out.trans (hb2.mono (by omega)); have hs2 : w.heap.size + 2 ≤ w2.heap.size := (by have := hb2.size; omega); have hl2 : w.heap.size < w2.heap.size := (by omega); have hl3 : w.heap.size + 1 < w2.heap.size := (by omega); obtain ⟨c0, c1, c2⟩ := hx2.c3; have g0 := hx2.frozen 0; have g1 := hx2.frozen 1; have g2 := hx2.frozen 2; clear hb2 hx2))
        have hx4 := ((((HX2.out.set 0 (.int .i64 2)).set 1 (.int .i64 (st.i : Nat))).set 2 (.slice none 0 0)).alloc (.cells #[.int .i64 0, .string ⟨#[]⟩, .int .i64 0, .int .i64 0] 31))
        obtain ⟨e0, e1, e2⟩ := hx4.c3
        try rw [Exit.noGoto_ret]
        refine bodyPost_ret (v := .agg #[.int .i64 2, .int .i64 (st.i : Nat), .slice none 0 0]) ?_ rfl ⟨ResP.err HE.out, ((((HB2.out.setCell (p := ⟨w.heap.size, 0, none⟩) (Nat.le_refl _) _).setCell (p := ⟨w.heap.size, 1, none⟩) (Nat.le_refl _) _).setCell (p := ⟨w.heap.size, 2, none⟩) (Nat.le_refl _) _).alloc (by simp; omega) _)⟩
        clear c0 c1 c2 g0 g1 g2
        simp [results, Tryd.results11, go_sem, e0, e1, e2]
      | some x =>
        obtain ⟨k, t, n⟩ := x
        have hns := nodeL_some hnl
        rw [List.length_drop, ← Lib.size_eq] at hns
        rw [hnl] at hstep hsc
        have HSC := hidG hsc
        clear hnl hsc hT2 c0 c1 c2 g0 g1 g2
        simp only [goM] at hstep
        have hn0 : (((n : Nat) : Int) == 0) = false := by rw [beq_eq_false_iff_ne]; omega
        by_cases hE : addE st.ns st.op k = 0
        · rw [if_pos hE] at hstep
          have HN := hidG (HRUN.out.go hstep)
          have HIN2 : Hid (Inv S.size ⟨st.i + n, addN st.ns st.op k (strOf t) st.i, addO st.ns st.op k⟩) := inv_add HIN.out (by omega) hE
          have HEE := hidG hE
          clear hstep hE
          go_wp2_with (first | (go_at_call 20; refine (tokenBegun_any S[st.i] _).mono ?_; rintro e w' ⟨rfl, hw⟩; have hw2 := hw.symm; subst hw2; clear hw; rw [HK.out]) | (go_at_call 23; rw [HT1.out]; refine (HSC.out _).mono ?_; rintro e w2 ⟨he, hb2⟩; unfold implR resN at he; subst he; have HTR2 := hidG (HTR.out.below hb2); have hx2 := HX.out.below (N := wr.heap.size) (by omega) hb2; have HX2 := hidG hx2; have HB2 : Hid (Below w.heap.size w w2) := HB.out.trans (hb2.mono (by omega)); have hs2 : w.heap.size + 2 ≤ w2.heap.size := (by have := hb2.size; omega); have hl2 : w.heap.size < w2.heap.size := (by omega); have hl3 : w.heap.size + 1 < w2.heap.size := (by omega); clear hb2 hx2) | (go_at_call 24; refine (add_any (w.heap.size + 1) (w.heap.size + 1) S.size st k (strOf t) (st.i : Nat) _ (HTR2.out.below (below_alloc _ _)) HIN.out (by simp; omega)).mono ?_; rintro e w3 ⟨rfl, htr3, hb3⟩; rw [HEE.out]; have HTR3 := hidG (htr3 HEE.out); have HX3 := hidG ((HX2.out.alloc (.cells #[.int .i64 k, .string (strOf t), .int .i64 0, .int .i64 (st.i : Nat)] 31)).below (N := w.heap.size + 1) (by omega) hb3); have HB3 : Hid (Below w.heap.size w w3) := (HB2.out.alloc (by omega) _).trans (hb3.mono (by omega)); have hs3 : w.heap.size + 2 ≤ w3.heap.size := (by have := hb3.size; simp at this; omega); clear htr3 hb3))
          go_roundw
          case rel => exact ⟨⟨st.i + n, addN st.ns st.op k (strOf t) st.i, addO st.ns st.op k⟩, by go_num, HIN2.out, HN.out, HTR3.out, HX3.out, HB3.out, hs3⟩
          case measure => simp [intOf]; omega
        · rw [if_neg hE] at hstep
          obtain ⟨E, hEE⟩ : ∃ E, addE st.ns st.op k = E := ⟨_, rfl⟩
          rw [hEE] at hstep hE
          have HE := hidG (HRUN.out.fin hstep)
          have HEE := hidG hEE
          have hE0 : (E == 0) = false := by rw [beq_eq_false_iff_ne]; exact hE
          clear hstep hE hEE
          go_wp2_with (first | (go_at_call 20; refine (tokenBegun_any S[st.i] _).mono ?_; rintro e w' ⟨rfl, hw⟩; have hw2 := hw.symm; subst hw2; clear hw; rw [HK.out]) | (go_at_call 23; rw [HT1.out]; refine (HSC.out _).mono ?_; rintro e w2 ⟨he, hb2⟩; unfold implR resN at he; subst he; have HTR2 := hidG (HTR.out.below hb2); have hx2 := HX.out.below (N := wr.heap.size) (by omega) hb2; have HX2 := hidG hx2; have HB2 : Hid (Below w.heap.size w w2) := HB.out.trans (hb2.mono (by omega)); have hs2 : w.heap.size + 2 ≤ w2.heap.size := (by have := hb2.size; omega); have hl2 : w.heap.size < w2.heap.size := (by omega); have hl3 : w.heap.size + 1 < w2.heap.size := (by omega); clear hb2 hx2) | (go_at_call 24; refine (add_any (w.heap.size + 1) (w.heap.size + 1) S.size st k (strOf t) (st.i : Nat) _ (HTR2.out.below (below_alloc _ _)) HIN.out (by simp; omega)).mono ?_; rintro e w3 ⟨rfl, htr3, hb3⟩; rw [HEE.out]; have hx3 := ((HX2.out.alloc (.cells #[.int .i64 k, .string (strOf t), .int .i64 0, .int .i64 (st.i : Nat)] 31)).below (N := w.heap.size + 1) (by omega) hb3); have HX3 := hidG hx3; have HB3 : Hid (Below w.heap.size w w3) := (HB2.out.alloc (by omega) _).trans (hb3.mono (by omega)); obtain ⟨c0, c1, c2⟩ := hx3.c3; have g0 := hx3.frozen 0; have g1 := hx3.frozen 1; have g2 := hx3.frozen 2; clear htr3 hb3 hx3))
          have hx4 := (((HX3.out.set 0 (.int .i64 E)).set 1 (.int .i64 (st.i : Nat))).set 2 (.slice none 0 0))
          obtain ⟨e0, e1, e2⟩ := hx4.c3
          try rw [Exit.noGoto_ret]
          refine bodyPost_ret (v := .agg #[.int .i64 E, .int .i64 (st.i : Nat), .slice none 0 0]) ?_ rfl ⟨ResP.err HE.out, ((((HB3.out.setCell (p := ⟨w.heap.size, 0, none⟩) (Nat.le_refl _) _).setCell (p := ⟨w.heap.size, 1, none⟩) (Nat.le_refl _) _).setCell (p := ⟨w.heap.size, 2, none⟩) (Nat.le_refl _) _))⟩
          clear c0 c1 c2 g0 g1 g2
          simp [results, Tryd.results11, go_sem, e0, e1, e2]
    · have HEND := HRUN.out.fin (step_end hlt)
      have HEN := hidG HEND
      clear HEND c0 c1 c2 g0 g1 g2
      go_wp2_with (go_at_call 25; refine (result_any _ _ S.size st _ HTR.out HIN.out (by omega)).mono ?_; rintro e w2 ⟨hres, hb2⟩; obtain ⟨f0, f1, va, vn, vc, rfl, hrp⟩ := res_form hres; have HRP := hidG hrp; clear hrp; have hx2 := HX.out.below (N := w.heap.size + 1) (by omega) hb2; have HX2 := hidG hx2; have HB2 : Hid (Below w.heap.size w w2) := HB.out.trans (hb2.mono (by omega)); obtain ⟨c0, c1, c2⟩ := hx2.c3; have g0 := hx2.frozen 0; have g1 := hx2.frozen 1; have g2 := hx2.frozen 2; clear hb2 hx2 hres)
      have hx4 := (((HX2.out.set 0 (.int .i64 f0)).set 1 (.int .i64 f1)).set 2 (.slice va vn vc))
      obtain ⟨e0, e1, e2⟩ := hx4.c3
      try rw [Exit.noGoto_ret]
      refine bodyPost_ret (v := .agg #[.int .i64 f0, .int .i64 f1, .slice va vn vc]) ?_ rfl ⟨?_, (((HB2.out.setCell (p := ⟨w.heap.size, 0, none⟩) (Nat.le_refl _) _).setCell (p := ⟨w.heap.size, 1, none⟩) (Nat.le_refl _) _).setCell (p := ⟨w.heap.size, 2, none⟩) (Nat.le_refl _) _)⟩
      · clear c0 c1 c2 g0 g1 g2
        simp [results, Tryd.results11, go_sem, e0, e1, e2]
      · have h5 := HRP.out (w.heap.size) w.heap.size ((((w2.setCell ⟨w.heap.size, 0, none⟩ (.int .i64 f0)).setCell ⟨w.heap.size, 1, none⟩ (.int .i64 f1)).setCell ⟨w.heap.size, 2, none⟩ (.slice va vn vc))) (by omega) (fun g hg => by rw [Below.heap_setCell _ _ _ g (by show g ≠ w.heap.size; omega), Below.heap_setCell _ _ _ g (by show g ≠ w.heap.size; omega), Below.heap_setCell _ _ _ g (by show g ≠ w.heap.size; omega)])
        rw [HEN.out] at h5; exact h5
end Go.Proofs.YtdngpnlbhadbpaaDoor
