import Derived.Test.YtdngpnlbhadbpaaDoorTkO
namespace Go.Proofs.YtdngpnlbhadbpaaDoor
open Go.ChangeShapes Go.WideShapes Go.ChangeAt Go.RowKit
/-- The program's reader, in memory. -/
def TR (base b : Nat) (ns : List (Nd × Int)) (op : List Nat) (w : World) : Prop :=
  base ≤ b ∧ ∃ vn vo, w.heap[b]? = some (.cells #[vn, vo] 40 (0, 0)) ∧ w.ownsRow base 31 4 vn ns.length (cellsN ns) ∧ w.ownsRow base 3 1 vo op.length (intsN op)
theorem heap_set2 {W : World} {b : Nat} {u0 u1 v : Value} {ty : TypeId} (h : W.heap[b]? = some (.cells #[u0, u1] ty (0, 0))) : (W.setCell ⟨b, 1, none⟩ v).heap[b]? = some (.cells #[u0, v] ty (0, 0)) := by
  obtain ⟨hlt, hk⟩ := Array.getElem?_eq_some_iff.1 h
  show (W.heap.modify b _)[b]? = _
  rw [Array.getElem?_eq_getElem (by rw [Array.size_modify]; exact hlt), Array.getElem_modify_self, hk]
  simp
theorem heap_set20 {W : World} {b : Nat} {u0 u1 v : Value} {ty : TypeId} (h : W.heap[b]? = some (.cells #[u0, u1] ty (0, 0))) : (W.setCell ⟨b, 0, none⟩ v).heap[b]? = some (.cells #[v, u1] ty (0, 0)) := by
  obtain ⟨hlt, hk⟩ := Array.getElem?_eq_some_iff.1 h
  show (W.heap.modify b _)[b]? = _
  rw [Array.getElem?_eq_getElem (by rw [Array.size_modify]; exact hlt), Array.getElem_modify_self, hk]
  simp
theorem own_ne {W : World} {base b : Nat} {e t : TypeId} {sz : Nat} {v : Value} {n : Nat} {xs : List Value} {cs : Array Value} {fz : Nat × Nat} (h : W.ownsRow base e sz v n xs) (hb : W.heap[b]? = some (.cells cs t fz)) (hne : e ≠ t) : v.ownBlock ≠ some b := by
  intro e'
  obtain ⟨c, f, hc⟩ := own_kind' h b e'
  rw [hb] at hc
  cases hc
  exact hne rfl
theorem own_set' {W : World} {base b : Nat} {e : TypeId} {sz : Nat} {v : Value} {n : Nat} {xs : List Value} (h : W.ownsRow base e sz v n xs) (hb : v.ownBlock ≠ some b) (i : Nat) (u : Value) : (W.setCell ⟨b, i, none⟩ u).ownsRow base e sz v n xs :=
  own_other' h fun g hg => Below.heap_setCell W _ u g (fun e => hb (by rw [hg]; exact congrArg some e))
theorem cell2_0 {W : World} {b : Nat} {u0 u1 : Value} {ty : TypeId} {fz : Nat × Nat} (h : W.heap[b]? = some (.cells #[u0, u1] ty fz)) : W.cell? ⟨b, 0, none⟩ = some u0 := by rw [Lib.cell_of_heap h]; rfl
theorem cell2_1 {W : World} {b : Nat} {u0 u1 : Value} {ty : TypeId} {fz : Nat × Nat} (h : W.heap[b]? = some (.cells #[u0, u1] ty fz)) : W.cell? ⟨b, 1, none⟩ = some u1 := by rw [Lib.cell_of_heap h]; rfl
theorem frz2 {W : World} {b : Nat} {cs : Array Value} {ty : TypeId} (h : W.heap[b]? = some (.cells cs ty (0, 0))) (i : Nat) : W.frozen? ⟨b, i, none⟩ = false := frozen_of_row W b i cs ty h
theorem intsN_last (j : Nat) (r : List Nat) : (intsN (j :: r))[r.length]? = some (.int .i64 (j : Nat)) := by
  rw [intsN_cons, List.getElem?_append_right (by rw [intsN_len]; exact Nat.le_refl _), intsN_len, Nat.sub_self]; rfl
set_option maxRecDepth 100000 in
set_option maxHeartbeats 4000000 in
theorem close_no (base b : Nat) (ns : List (Nd × Int)) (w : World) (h : TR base b ns [] w) :
    Calls Tryd.prog 22 #[.pointer (some ⟨b, 0, none⟩)] w fun e w' => e = .returned (.bool false) ∧ w' = w := by
  obtain ⟨hb, vn, vo, hbk, _, h2⟩ := h
  obtain ⟨p, c, rfl⟩ := own_shape h2
  have k1 := cell2_1 hbk
  clear hbk h2
  go_enter Tryd.func22, Tryd.ntmps22
  go_wp2_with fail
  go_ret
  exact ⟨rfl, rfl⟩
set_option maxRecDepth 100000 in
set_option maxHeartbeats 4000000 in
theorem close_yes (base b j : Nat) (r : List Nat) (ns : List (Nd × Int)) (w : World) (h : TR base b ns (j :: r) w) (hr : r.length ≤ 200) :
    Calls Tryd.prog 22 #[.pointer (some ⟨b, 0, none⟩)] w fun e w' => e = .returned (.bool true) ∧ TR base b ns r w' ∧ Below base w w' := by
  obtain ⟨hb, vn, vo, hbk, h1, h2⟩ := h
  rw [List.length_cons] at h2
  obtain ⟨g, c, rfl, hbg, hglt⟩ := h2.form (by omega)
  have hcap := own_cap h2
  have k1 := cell2_1 hbk
  have f1 := frz2 hbk 1
  have HT : Hid (TR base b ns r (w.drew.setCell ⟨b, 1, none⟩ (.slice (some ⟨g, 0, none⟩) r.length c))) :=
    ⟨hb, vn, _, heap_set2 hbk, own_set' h1.drew (own_ne h1 hbk (by decide)) _ _, own_set' (own_cut' h2).drew (by have := own_ne h2 hbk (by decide); exact this) _ _⟩
  have HB : Hid (Below base w (w.drew.setCell ⟨b, 1, none⟩ (.slice (some ⟨g, 0, none⟩) r.length c))) := (Below.refl _ _).drew.setCell (p := ⟨b, 1, none⟩) hb _
  unfold maxLen at hcap
  clear hbk h1 h2
  go_enter Tryd.func22, Tryd.ntmps22
  go_wp2_with fail
  go_region
  all_goals
    go_wp2_with fail
    go_ret
    exact ⟨rfl, HT.out, HB.out⟩
/-- What both readers answer with. -/
def resE (e q : Int) : Ending := .returned (.agg #[.int .i64 e, .int .i64 q, .slice none 0 0])
set_option maxRecDepth 100000 in
set_option maxHeartbeats 4000000 in
theorem result_ok (base b : Nat) (ns : List (Nd × Int)) (w : World) (h : TR base b ns [] w) (hbw : base ≤ w.heap.size) :
    Calls Tryd.prog 25 #[.pointer (some ⟨b, 0, none⟩)] w fun e w' => (∃ v, e = .returned (.agg #[.int .i64 0, .int .i64 0, v]) ∧ w'.ownsRow base 31 4 v ns.length (cellsN ns)) ∧ Below base w w' := by
  obtain ⟨hb, vn, vo, hbk, h1, h2⟩ := h
  obtain ⟨p, c, rfl⟩ := own_shape h2
  obtain ⟨p1, c1, rfl⟩ := own_shape h1
  have k1 := cell2_1 hbk
  have k0 := cell2_0 hbk
  have hlt := (Array.getElem?_eq_some_iff.1 hbk).1
  have H1 := hidG h1
  have HW := hidG hbw
  clear hbk h2 h1
  go_enter Tryd.func25, Tryd.ntmps25
  go_wp2_with fail
  refine bodyPost_ret (v := .agg #[.int .i64 0, .int .i64 0, .slice p1 ns.length c1]) ?_ rfl ⟨⟨_, rfl, H1.out.alloc _⟩, (Below.refl _ _).alloc HW.out _⟩
  simp [results, Tryd.results25, go_sem]
set_option maxRecDepth 100000 in
set_option maxHeartbeats 4000000 in
theorem result_open (base b j : Nat) (r : List Nat) (ns : List (Nd × Int)) (w : World) (h : TR base b ns (j :: r) w) (hj : j < ns.length) (hr : r.length ≤ 200) (hn : ns.length ≤ 8000) (hbw : base ≤ w.heap.size) :
    Calls Tryd.prog 25 #[.pointer (some ⟨b, 0, none⟩)] w fun e w' => e = resE 3 (endQ ns j) ∧ Below base w w' := by
  obtain ⟨hb, vn, vo, hbk, h1, h2⟩ := h
  rw [List.length_cons] at h2
  obtain ⟨g, c, rfl, hbg, hglt⟩ := h2.form (by omega)
  obtain ⟨gn, cn, rfl, hbgn, hgnlt⟩ := h1.form (by omega)
  have hcap := own_cap h2
  have hcapn := own_cap h1
  have k1 := cell2_1 hbk
  have k0 := cell2_0 hbk
  have hlt := (Array.getElem?_eq_some_iff.1 hbk).1
  have kj := h2.cellAt r.length (by omega)
  rw [intsN_last] at kj
  have kq := h1.cellAt (j * 4 + 3) (by omega)
  rw [cellsN_at ns j 3 hj (by decide)] at kq
  have HQ : Hid (endQ ns j = ns[j].2) := by unfold Hid endQ; rw [List.getElem?_eq_getElem hj]
  have kq' : w.cell? ⟨gn, j * 4 + 3, none⟩ = some (.int .i64 ns[j].2) := kq
  obtain ⟨q, hq⟩ : ∃ q, ns[j].2 = q := ⟨_, rfl⟩
  rw [hq] at kq' HQ
  have HW := hidG hbw
  unfold maxLen at hcap hcapn
  clear hbk h2 h1 kq hq
  go_enter Tryd.func25, Tryd.ntmps25
  go_wp2_with fail
  go_region
  go_wp2_with fail
  refine bodyPost_ret (v := .agg #[.int .i64 3, .int .i64 q, .slice none 0 0]) ?_ rfl ⟨by rw [HQ.out]; rfl, ((Below.refl _ _).alloc HW.out _).drew⟩
  simp [results, Tryd.results25, go_sem]
end Go.Proofs.YtdngpnlbhadbpaaDoor
