import Derived.Test.YtdngpnlbhadbpaaDoorTrDc
import Derived.Deep.RegionLaw
import Derived.Deep.RegionWith
import Derived.Test.YtdngpnlbhadbpaaDoorTkV
namespace Go.Proofs.YtdngpnlbhadbpaaDoor
open Go.ChangeShapes Go.WideShapes Go.ChangeAt Go.RowKit
set_option maxRecDepth 100000 in
set_option maxHeartbeats 4000000 in
theorem own_take {W : World} {base b c i : Nat} {ns : List (Nd × Int)} (h : W.ownsRow base 31 4 (.slice (some ⟨b, 0, none⟩) ns.length c) ns.length (cellsN ns)) (hi : i ≤ ns.length) : W.ownsRow base 31 4 (.slice (some ⟨b, 0, none⟩) i c) i (cellsN (ns.take i)) := by
  have hl : (ns.take i).length = i := by rw [List.length_take]; omega
  refine ⟨by rw [cellsN_len, hl], ?_⟩
  rcases h.2 with ⟨hv, _⟩ | ⟨g, cap, cur, hv, h2, h3, h4, h5, h6, h7⟩
  · cases hv
  · cases hv
    refine .inr ⟨b, c, cur, rfl, h2, h3, by omega, h5, h6, ?_⟩
    have e : cellsN ns = cellsN (ns.take i) ++ cellsN (ns.drop i) := by rw [← cellsN_app, List.take_append_drop]
    have h8 := congrArg (List.take (i * 4)) h7
    rw [List.take_take, Nat.min_eq_left (by omega), e, List.take_append_of_le_length (by rw [cellsN_len, hl]; exact Nat.le_refl _)] at h8
    exact h8.trans (List.take_of_length_le (by rw [cellsN_len, hl]; exact Nat.le_refl _))
theorem step_app_own {P : Program} {w : World} {ops : Array Oper} {o : Oper} {a : Act} {K : Act → World → Prop} {Q : Exit → Act → World → Prop} {E : Prop} (hgd : o.guard = none) (s x : Operand) (t : TypeId)
    (ho : o.op = .call { callee := .builtin .append, args := #[s, x], argTypes := #[t, t] })
    (base : Nat) (e : TypeId) (i : TypeInfo) (z : Value) (size bytes : Nat) (ht : P.underlying t = some (.slice e)) (hi : P.info? e = some i) (hz : i.zero = some z)
    (hsize : i.size = size) (hby : i.bytes = bytes) (hzs : z.cells.size = size) (hsz : 0 < size)
    (v : Value) (n : Nat) (xs : List Value) (hs : a.eval s = v) (hown : w.ownsRow base e size v n xs)
    (ad : Addr) (m c : Nat) (news : List Value) (hx : a.eval x = .slice (some ad) m c) (hl : news.length = m * size) (hnews : ∀ j u, news[j]? = some u → w.cell? (ad.add j) = some u) (h1 : ∀ u ∈ news, u.oneCell' = true)
    (h63 : n + m ≤ maxLen) (hbytes : (n + m) * bytes ≤ 140737488355328) (hbase : base ≤ w.heap.size)
    (h : ∀ v' w', w'.ownsRow base e size v' (n + m) (xs ++ news) → w.grownBy w' v.ownBlock → K (a.put o.dst v') w') :
    if Region.wanted o (yielded ops a.tmps) = true then Oper.wp P o a w K Q else E := by
  have hw : Region.wanted o (yielded ops a.tmps) = true := by simp [Region.wanted, hgd]
  rw [if_pos hw]
  obtain ⟨v', w', hr, h2, h3, _, _⟩ := run_append_own_at (P := P) w base t o.type e i z size bytes ht hi hz hsize hby hzs hsz v n xs hown ad m c news hl hnews h1 h63 hbytes hbase
  unfold Oper.wp execOp
  simp only [ho, resolve, invoke, builtin, Sem.run_bind, Sem.run_pure, Result.andThen_ok, List.map_toArray, List.map_cons, List.map_nil, hs, hx, hr]
  exact h v' w' h2 h3
theorem mem_cutN {ns : List (Nd × Int)} {i : Nat} {y : Nd × Int} (h : y ∈ ns.take i ++ ns.drop (i + 1)) : y ∈ ns := by
  rcases List.mem_append.1 h with h | h
  · exact List.mem_of_mem_take h
  · exact List.mem_of_mem_drop h
theorem cellsN_one : ∀ (ns : List (Nd × Int)), ∀ u ∈ cellsN ns, u.oneCell' = true
  | [], u, h => by simp [cellsN] at h
  | x :: r, u, h => by
    rcases List.mem_append.1 h with h | h
    · simp only [nodeC, List.mem_cons, List.not_mem_nil, or_false] at h
      rcases h with rfl | rfl | rfl | rfl <;> rfl
    · exact cellsN_one r u h
theorem cells_putN (A B : List (Nd × Int)) (x : Nd × Int) (k : Int) (t : ByteArray) (kd q : Int) {i : Nat} (hi : A.length = i) :
    ((((cellsN (A ++ x :: B)).set (i * 4) (.int .i64 k)).set (i * 4 + 1) (.string t)).set (i * 4 + 2) (.int .i64 kd)).set (i * 4 + 3) (.int .i64 q) = cellsN (A ++ (⟨k, t, kd⟩, q) :: B) := by
  subst hi
  have e : ∀ d v (l : List Value), (cellsN A ++ l).set (A.length * 4 + d) v = cellsN A ++ l.set d v := fun d v l => by
    rw [List.set_append_right _ _ (by rw [cellsN_len]; omega)]
    congr 2
    rw [cellsN_len]; omega
  rw [cellsN_app, cellsN_app]
  have e0 := e 0
  rw [Nat.add_zero] at e0
  rw [e0, e, e, e]
  rfl
theorem row_put {W : World} {base b c i : Nat} {ns : List (Nd × Int)} (h : W.ownsRow base 31 4 (.slice (some ⟨b, 0, none⟩) ns.length c) ns.length (cellsN ns)) (hi : i < ns.length) (k : Int) (t : ByteArray) (kd q : Int) :
    ((((W.setCell ⟨b, i * 4, none⟩ (.int .i64 k)).setCell ⟨b, i * 4 + 1, none⟩ (.string t)).setCell ⟨b, i * 4 + 2, none⟩ (.int .i64 kd)).setCell ⟨b, i * 4 + 3, none⟩ (.int .i64 q)).ownsRow base 31 4 (.slice (some ⟨b, 0, none⟩) ns.length c) (ns.set i (⟨k, t, kd⟩, q)).length (cellsN (ns.set i (⟨k, t, kd⟩, q))) := by
  have h4 := ((((h.stored (i * 4) (.int .i64 k)).1.stored (i * 4 + 1) (.string t)).1.stored (i * 4 + 2) (.int .i64 kd)).1.stored (i * 4 + 3) (.int .i64 q)).1
  have e : ns = ns.take i ++ ns[i] :: ns.drop (i + 1) := by rw [← List.drop_eq_getElem_cons hi, List.take_append_drop]
  have e2 : ns.set i (⟨k, t, kd⟩, q) = ns.take i ++ (⟨k, t, kd⟩, q) :: ns.drop (i + 1) := List.set_eq_take_append_cons_drop .. |>.trans (by rw [if_pos hi])
  have e3 : cellsN ns = cellsN (ns.take i ++ ns[i] :: ns.drop (i + 1)) := congrArg cellsN e
  rw [e3, cells_putN _ _ _ k t kd q (by rw [List.length_take]; omega), ← e2] at h4
  rw [List.length_set]
  exact h4
def SmO (ns : List (Nd × Int)) : Prop := ∀ x ∈ ns, x.1.text.size ≤ 10000 ∧ -2 ≤ x.1.kids ∧ x.1.kids ≤ 11
theorem SmN.out {ns : List (Nd × Int)} (h : SmN ns) : SmO ns := fun x hx => by have := h x hx; omega
theorem row_at' {W : World} {base g c : Nat} {ns : List (Nd × Int)} (h : W.ownsRow base 31 4 (.slice (some ⟨g, 0, none⟩) ns.length c) ns.length (cellsN ns)) {i : Nat} (hi : i < ns.length) :
    W.cell? ⟨g, i * 4, none⟩ = some (.int .i64 ns[i].1.kind) ∧ W.cell? ⟨g, i * 4 + 1, none⟩ = some (.string ns[i].1.text) ∧ W.cell? ⟨g, i * 4 + 2, none⟩ = some (.int .i64 ns[i].1.kids) ∧ W.cell? ⟨g, i * 4 + 3, none⟩ = some (.int .i64 ns[i].2) := by
  have e : ∀ d, d < 4 → W.cell? ⟨g, i * 4 + d, none⟩ = (nodeC ns[i])[d]? := fun d hd => by
    rw [h.cellAt (i * 4 + d) (by omega), cellsN_at ns i d hi hd]
  have e0 := e 0 (by decide)
  rw [Nat.add_zero] at e0
  exact ⟨e0, e 1 (by decide), e 2 (by decide), e 3 (by decide)⟩
theorem SmN.set {ns : List (Nd × Int)} (h : SmN ns) {x : Nd × Int} (i : Nat) (h1 : x.1.text.size ≤ 10000) (h2 : -2 ≤ x.1.kids ∧ x.1.kids ≤ 11) : SmO (ns.set i x) := fun y hy => by
  rcases List.mem_or_eq_of_mem_set hy with hy | rfl
  · exact h.out y hy
  · exact ⟨h1, h2⟩
set_option maxRecDepth 100000 in
set_option maxHeartbeats 4000000 in
theorem spoilt_none (g : Nat) (p : Option Addr) (c : Nat) (w : World) :
    Calls Tryd.prog 34 #[.pointer (some ⟨g, 0, none⟩), .slice p 0 c] w fun e w' => e = .returned (.slice p 0 c) ∧ w' = w := by
  go_enter Tryd.func34, Tryd.ntmps34
  go_wp2_with fail
  go_ret
  exact ⟨rfl, rfl⟩
set_option maxRecDepth 100000 in
set_option maxHeartbeats 4000000 in
theorem spoilt_row (g N k base b c : Nat) (ns : List (Nd × Int)) (w : World) (h : IsCur g N w k) (hk : k ≤ 1000000) (hN : N ≤ base) (hn0 : 0 < ns.length) (hn : ns.length ≤ 400) (hs : SmN ns) (ho : w.ownsRow base 31 4 (.slice (some ⟨b, 0, none⟩) ns.length c) ns.length (cellsN ns)) :
    Calls Tryd.prog 34 #[.pointer (some ⟨g, 0, none⟩), .slice (some ⟨b, 0, none⟩) ns.length c] w fun e w' => ∃ (v : Value) (ns' : List (Nd × Int)), e = .returned v ∧ w'.ownsRow base 31 4 v ns'.length (cellsN ns') ∧ SmO ns' ∧ ns'.length ≤ 400 ∧ Below g w w' := by
  have HC := hidG h
  have HO := hidG ho
  have HSM := hidG hs
  have hgl := h.lt
  have hgN := h.1
  have hcap := own_cap ho
  have hbl := ho.lt b rfl
  unfold maxLen at hcap
  clear h ho hs
  go_enter Tryd.func34, Tryd.ntmps34
  go_wp2_with fail
  refine (pickX_any g N k ns.length _ _ HC.out rfl (by omega) hn0 (by omega)).mono ?_
  rintro e w1 ⟨i, k1, rfl, hi, hk1, hc1, hb1⟩
  have HC1 := hidG hc1
  have HB1 := hidG hb1
  have ho1 := own_bar HO.out hb1 (by omega)
  have HO1 := hidG ho1
  have e0 := ho1.cellAt (i * 4 + 0) (by omega)
  have e1 := ho1.cellAt (i * 4 + 1) (by omega)
  have e2 := ho1.cellAt (i * 4 + 2) (by omega)
  have e3 := ho1.cellAt (i * 4 + 3) (by omega)
  rw [cellsN_at ns i 0 hi (by decide), Nat.add_zero] at e0
  rw [cellsN_at ns i 1 hi (by decide)] at e1
  rw [cellsN_at ns i 2 hi (by decide)] at e2
  rw [cellsN_at ns i 3 hi (by decide)] at e3
  obtain ⟨x, hx⟩ : ∃ x, ns[i] = x := ⟨_, rfl⟩
  rw [hx] at e0 e1 e2 e3
  simp only [nodeC] at e0 e1 e2 e3
  have hxs := HSM.out x (by rw [← hx]; exact List.getElem_mem hi)
  have hb1l : b < w1.heap.size := (ho1.lt b rfl).2
  have HXX := hidG hx
  clear hc1 hb1 ho1 hx
  go_wp2_with fail
  refine (pickX_any g N k1 4 _ _ (HC1.out.below ((below_alloc w1 _).mono HC1.out.2.1)) rfl (by omega) (by decide) (by decide)).mono ?_
  rintro e w2 ⟨r, k2, rfl, hr, hk2, hc2, hb2⟩
  have HC2 := hidG hc2
  have ho2 := own_bar (HO1.out.alloc (.cells #[.int .i64 x.1.kind, .string x.1.text, .int .i64 x.1.kids, .int .i64 x.2] 31)) hb2 (by omega)
  have HO2 := hidG ho2
  have hx2 := (bx_new w1 [.int .i64 x.1.kind, .string x.1.text, .int .i64 x.1.kids, .int .i64 x.2] 31).bar hb2 (by have := HC1.out.lt; omega)
  have HX2 := hidG hx2
  have HB2 : Hid (Below g w w2) := (((HB1.out.trans (Bar.of (below_alloc w1 _))).trans hb2).below (Nat.le_refl _) (by omega))
  have hw12 : w1.heap.size < w2.heap.size := hx2.lt
  have hb2l : b < w2.heap.size := by omega
  have hbn : b ≠ w1.heap.size := by omega
  have hbn' : w1.heap.size ≠ b := by omega
  clear hc2 hb2 ho2 hx2 e0 e1 e2 e3
  have hcase : r = 0 ∨ r = 1 ∨ r = 2 ∨ 3 ≤ r := by omega
  rcases hcase with hr0 | hr0 | hr0 | hr3
  · subst hr0
    clear hr
    go_wp2_with fail
    refine (pickX_any g N k2 9 _ _ HC2.out rfl (by omega) (by decide) (by decide)).mono ?_
    rintro e w3 ⟨r, k3, rfl, hr, hk3, hc3, hb3⟩
    have ho3 := own_bar HO2.out hb3 (by omega)
    have HO3 := hidG ho3
    have hx3 := HX2.out.bar hb3 (by omega)
    have HX3 := hidG hx3
    have HB3 : Hid (Below g w w3) := HB2.out.trans (hb3.below (Nat.le_refl _) (by omega))
    obtain ⟨b0, b1, b2, b3⟩ := hx3.c4
    have y0 := hx3.frozen 0
    obtain ⟨e0, e1, e2, e3⟩ := row_at' ho3 hi
    have f0 := ho3.frozenAt (i * 4)
    have f1 := ho3.frozenAt (i * 4 + 1)
    have f2 := ho3.frozenAt (i * 4 + 2)
    have f3 := ho3.frozenAt (i * 4 + 3)
    clear hc3 hb3 ho3 hx3
    go_wp2_with fail
    go_ret
    refine ⟨_, _, rfl, row_put (own_set' HO3.out (b := w1.heap.size) (by intro e; exact hbn (Option.some.inj e)) 0 (.int .i64 (r : Nat))) hi (r : Nat) x.1.text x.1.kids x.2, HSM.out.set i hxs.1 (by show -2 ≤ x.1.kids ∧ x.1.kids ≤ 11; omega), by rw [List.length_set]; exact hn, ?_⟩
    exact (((((HB3.out.setCell (p := ⟨w1.heap.size, 0, none⟩) (by show g ≤ w1.heap.size; omega) _).setCell (p := ⟨b, i * 4, none⟩) (by show g ≤ b; omega) _).setCell (p := ⟨b, i * 4 + 1, none⟩) (by show g ≤ b; omega) _).setCell (p := ⟨b, i * 4 + 2, none⟩) (by show g ≤ b; omega) _).setCell (p := ⟨b, i * 4 + 3, none⟩) (by show g ≤ b; omega) _)
  · subst hr0
    clear hr
    go_wp2_with fail
    obtain ⟨b0, b1, b2, b3⟩ := HX2.out.c4
    have y2 := HX2.out.frozen 2
    have hxk : -1 ≤ x.1.kids ∧ x.1.kids ≤ 10 := hxs.2
    obtain ⟨kd, hkd⟩ : ∃ kd, x.1.kids = kd := ⟨_, rfl⟩
    rw [hkd] at b2 hxk
    have HKD := hidG hkd
    clear hkd
    go_region_with (go_at_call 30; refine (pickX_any g N k2 3 _ _ ?_ rfl (by omega) (by decide) (by decide)).mono ?_; exact HC2.out.below (Below.refl _ _).drew; rintro e w3 ⟨r, k3, rfl, hr, hk3, hc3, hb3⟩; have hx3 := HX2.out.drew.bar hb3 (by omega); obtain ⟨d0, d1, d2, d3⟩ := hx3.c4; rw [HKD.out] at d2; have y3 := hx3.frozen 2)
    all_goals
      obtain ⟨K2, hK2, hK3⟩ : ∃ K2 : Int, IntKind.i64.wrap (kd + IntKind.i64.wrap ((r : Int) - 1)) = K2 ∧ -2 ≤ K2 ∧ K2 ≤ 11 := ⟨_, rfl, by simp only [IntKind.wrap_i64]; omega⟩
      rw [hK2]
      have ho3 := own_bar HO2.out.drew hb3 (by omega)
      have HO3 := hidG ho3
      have HX3 := hidG hx3
      have HB3 : Hid (Below g w w3) := HB2.out.drew.trans (hb3.below (Nat.le_refl _) (by show g ≤ w2.heap.size; omega))
      have d4 := (HX3.out.set 2 (.int .i64 K2))
      obtain ⟨d0, d1, d2, d3⟩ := d4.c4
      have hos := own_set' HO3.out (b := w1.heap.size) (by intro e; exact hbn (Option.some.inj e)) 2 (.int .i64 K2)
      have HOS := hidG hos
      obtain ⟨W, hW⟩ : ∃ W, w3.setCell ⟨w1.heap.size, 2, none⟩ (.int .i64 K2) = W := ⟨_, rfl⟩
      rw [hW] at hos d0 d1 d2 d3 HOS ⊢
      have HBW : Hid (Below g w W) := by unfold Hid; rw [← hW]; exact HB3.out.setCell (p := ⟨w1.heap.size, 2, none⟩) (by show g ≤ w1.heap.size; omega) _
      obtain ⟨e0, e1, e2, e3⟩ := row_at' hos hi
      have f0 := hos.frozenAt (i * 4)
      have f1 := hos.frozenAt (i * 4 + 1)
      have f2 := hos.frozenAt (i * 4 + 2)
      have f3 := hos.frozenAt (i * 4 + 3)
      clear hW hos hc3 hb3 ho3 hx3 hK2 b0 b1 b2 b3 y2 y3 d4
      go_wp2_with fail
      go_ret
      refine ⟨_, _, rfl, row_put HOS.out hi x.1.kind x.1.text K2 x.2, HSM.out.set i hxs.1 hK3, by rw [List.length_set]; exact hn, ?_⟩
      exact ((((HBW.out.setCell (p := ⟨b, i * 4, none⟩) (by show g ≤ b; omega) _).setCell (p := ⟨b, i * 4 + 1, none⟩) (by show g ≤ b; omega) _).setCell (p := ⟨b, i * 4 + 2, none⟩) (by show g ≤ b; omega) _).setCell (p := ⟨b, i * 4 + 3, none⟩) (by show g ≤ b; omega) _)
  · subst hr0
    clear hr
    go_wp2_with fail
    refine (pickX_any g N k2 9 _ _ (HC2.out.below ((below_alloc w2 _).mono HC2.out.2.1)) rfl (by omega) (by decide) (by decide)).mono ?_
    rintro e w3 ⟨r, k3, rfl, hr, hk3, hc3, hb3⟩
    obtain ⟨u, hu, hus⟩ := str_at ((bx_new w2 [.string ⟨#[]⟩, .string ⟨#[124]⟩, .string ⟨#[97, 92]⟩, .string ⟨#[48, 49]⟩, .string ⟨#[49, 46]⟩, .string ⟨#[50]⟩, .string ⟨#[7]⟩, .string ⟨#[34]⟩, .string ⟨#[49, 97]⟩] 9).bar hb3 (by omega)) (by decide) (r := r) hr
    have HUS := hidG hus
    have ho3 := own_bar (HO2.out.alloc (.cells #[.string ⟨#[]⟩, .string ⟨#[124]⟩, .string ⟨#[97, 92]⟩, .string ⟨#[48, 49]⟩, .string ⟨#[49, 46]⟩, .string ⟨#[50]⟩, .string ⟨#[7]⟩, .string ⟨#[34]⟩, .string ⟨#[49, 97]⟩] 9)) hb3 (by omega)
    have HO3 := hidG ho3
    have hx3 := (HX2.out.alloc (.cells #[.string ⟨#[]⟩, .string ⟨#[124]⟩, .string ⟨#[97, 92]⟩, .string ⟨#[48, 49]⟩, .string ⟨#[49, 46]⟩, .string ⟨#[50]⟩, .string ⟨#[7]⟩, .string ⟨#[34]⟩, .string ⟨#[49, 97]⟩] 9)).bar hb3 (by omega)
    have HX3 := hidG hx3
    have HB3 : Hid (Below g w w3) := (HB2.out.alloc (by omega) _).trans (hb3.below (Nat.le_refl _) (by simp; omega))
    obtain ⟨b0, b1, b2, b3⟩ := hx3.c4
    have y0 := hx3.frozen 1
    obtain ⟨e0, e1, e2, e3⟩ := row_at' ho3 hi
    have f0 := ho3.frozenAt (i * 4)
    have f1 := ho3.frozenAt (i * 4 + 1)
    have f2 := ho3.frozenAt (i * 4 + 2)
    have f3 := ho3.frozenAt (i * 4 + 3)
    clear hc3 hb3 ho3 hx3 hus
    go_wp2_with fail
    go_ret
    refine ⟨_, _, rfl, row_put (own_set' HO3.out (b := w1.heap.size) (by intro e; exact hbn (Option.some.inj e)) 1 (.string u)) hi x.1.kind u x.1.kids x.2, HSM.out.set i (by have := HUS.out; show u.size ≤ 10000; omega) (by show -2 ≤ x.1.kids ∧ x.1.kids ≤ 11; omega), by rw [List.length_set]; exact hn, ?_⟩
    exact (((((HB3.out.setCell (p := ⟨w1.heap.size, 1, none⟩) (by show g ≤ w1.heap.size; omega) _).setCell (p := ⟨b, i * 4, none⟩) (by show g ≤ b; omega) _).setCell (p := ⟨b, i * 4 + 1, none⟩) (by show g ≤ b; omega) _).setCell (p := ⟨b, i * 4 + 2, none⟩) (by show g ≤ b; omega) _).setCell (p := ⟨b, i * 4 + 3, none⟩) (by show g ≤ b; omega) _)
  · have z0 : ((r : Int) == 0) = false := by rw [beq_eq_false_iff_ne]; omega
    have z1 : ((r : Int) == 1) = false := by rw [beq_eq_false_iff_ne]; omega
    have z2 : ((r : Int) == 2) = false := by rw [beq_eq_false_iff_ne]; omega
    have hcut : w2.drew.ownsRow base 31 4 (.slice (some ⟨b, 0, none⟩) i c) i (cellsN (ns.take i)) := own_take HO2.out.drew (by omega)
    obtain ⟨i0, hinf, hz0, hz1, hz2⟩ := info_node
    have HCUT := hidG hcut
    clear hcut
    have hic : i ≤ c := by omega
    have hin : i + 1 ≤ ns.length := by omega
    have hwr : IntKind.i64.wrap ((i : Int) + 1) = (i : Int) + 1 := by rw [IntKind.wrap_i64]; omega
    have hi0 : 0 ≤ (i : Int) + 1 ∧ (i : Int) + 1 ≤ (ns.length : Int) := by omega
    have HLL : Hid ((cellsN (ns.drop (i + 1))).length = (ns.length - (i + 1)) * 4) := by unfold Hid; rw [cellsN_len, List.length_drop]
    have H1C : Hid (∀ u ∈ cellsN (ns.drop (i + 1)), u.oneCell' = true) := fun u hu => cellsN_one _ u hu
    have HMX : Hid (i + (ns.length - (i + 1)) ≤ maxLen) := by unfold Hid maxLen; omega
    have HBY : Hid ((i + (ns.length - (i + 1))) * 40 ≤ 140737488355328) := by unfold Hid; omega
    have HBS : Hid (base ≤ w2.drew.heap.size) := by show base ≤ w2.heap.size; omega
    by_cases hce : c = i + 1
    · have hdr : ns.drop (i + 1) = [] := List.drop_of_length_le (by omega)
      have HDR := hidG hdr
      subst hce
      have hic2 : (i : Int) ≤ (i : Int) + 1 := by omega
      have HMX0 : Hid (i + 0 ≤ maxLen) := by unfold Hid maxLen; omega
      have HBY0 : Hid ((i + 0) * 40 ≤ 140737488355328) := by unfold Hid; omega
      clear hdr
      go_wp2_with fail
      go_region_law ((refine step_app_own (by rfl) _ _ _ (by rfl) base 31 i0 _ 4 40 Tryd.underlying23 hinf hz0 hz1 hz2 rfl (by omega) (.slice (some ⟨b, 0, none⟩) i (i + 1)) i (cellsN (ns.take i)) (by rfl) HCUT.out ⟨b, 0, none⟩ 0 0 [] (by rfl) rfl (fun j u hu => by simp at hu) (fun u hu => by simp at hu) HMX0.out HBY0.out HBS.out ?_; intro v4 w4 hown4 hgr4))
      all_goals
        have HOWN : Hid (w4.ownsRow base 31 4 v4 (ns.take i ++ ns.drop (i + 1)).length (cellsN (ns.take i ++ ns.drop (i + 1)))) := by
          unfold Hid; rw [HDR.out, List.append_nil, List.length_take, Nat.min_eq_left (by omega)]; rw [List.append_nil] at hown4; exact hown4
        have HBB : Hid (Below g w w4) := HB2.out.drew.grown hgr4 (by show g ≤ w2.heap.size; omega) (fun k e => by have := (HCUT.out.lt k e).1; omega)
        have HSS : Hid (SmO (ns.take i ++ ns.drop (i + 1))) := fun y hy => HSM.out.out y (mem_cutN hy)
        clear hown4 hgr4
        go_wp2_with fail
        go_ret
        exact ⟨_, _, rfl, HOWN.out, HSS.out, by rw [List.length_append, List.length_take, List.length_drop]; omega, HBB.out⟩
    · have HNWS : Hid (∀ j u, (cellsN (ns.drop (i + 1)))[j]? = some u → w2.drew.cell? ((⟨b, (i + 1) * 4, none⟩ : Addr).add j) = some u) := fun j u hu => by
        have hj : j < (cellsN (ns.drop (i + 1))).length := (List.getElem?_eq_some_iff.1 hu).1
        rw [HLL.out] at hj
        have he : ((⟨b, (i + 1) * 4, none⟩ : Addr).add j) = ⟨b, (i + 1) * 4 + j, none⟩ := by unfold Addr.add; split <;> simp_all
        rw [he]
        have hc := HO2.out.drew.cellAt ((i + 1) * 4 + j) (by omega)
        rw [hc]
        have e : cellsN ns = cellsN (ns.take (i + 1)) ++ cellsN (ns.drop (i + 1)) := by rw [← cellsN_app, List.take_append_drop]
        rw [e, List.getElem?_append_right (by rw [cellsN_len, List.length_take]; omega), cellsN_len, List.length_take, Nat.min_eq_left (by omega), Nat.add_sub_cancel_left]
        exact hu
      go_wp2_with fail
      go_region_law ((refine step_app_own (by rfl) _ _ _ (by rfl) base 31 i0 _ 4 40 Tryd.underlying23 hinf hz0 hz1 hz2 rfl (by omega) (.slice (some ⟨b, 0, none⟩) i c) i (cellsN (ns.take i)) (by rfl) HCUT.out ⟨b, (i + 1) * 4, none⟩ (ns.length - (i + 1)) (c - (i + 1)) (cellsN (ns.drop (i + 1))) (by rfl) HLL.out HNWS.out H1C.out HMX.out HBY.out HBS.out ?_; intro v4 w4 hown4 hgr4))
      all_goals
        have HOWN : Hid (w4.ownsRow base 31 4 v4 (ns.take i ++ ns.drop (i + 1)).length (cellsN (ns.take i ++ ns.drop (i + 1)))) := by
          unfold Hid; rw [cellsN_app, List.length_append, List.length_take, List.length_drop, Nat.min_eq_left (by omega)]; exact hown4
        have HBB : Hid (Below g w w4) := HB2.out.drew.grown hgr4 (by show g ≤ w2.heap.size; omega) (fun k e => by have := (HCUT.out.lt k e).1; omega)
        have HSS : Hid (SmO (ns.take i ++ ns.drop (i + 1))) := fun y hy => HSM.out.out y (mem_cutN hy)
        clear hown4 hgr4
        go_wp2_with fail
        go_ret
        exact ⟨_, _, rfl, HOWN.out, HSS.out, by rw [List.length_append, List.length_take, List.length_drop]; omega, HBB.out⟩
end Go.Proofs.YtdngpnlbhadbpaaDoor
