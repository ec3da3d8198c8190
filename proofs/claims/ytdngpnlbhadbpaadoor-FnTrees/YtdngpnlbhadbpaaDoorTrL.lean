import Derived.Test.YtdngpnlbhadbpaaDoorTrYa
import Derived.Deep.RegionHeld3
import Derived.Deep.RegionLaw
import Derived.Deep.AppendLies
import Derived.Lib.OthersKept
namespace Go.Proofs.YtdngpnlbhadbpaaDoor
open Go.ChangeShapes Go.WideShapes Go.ChangeAt Go.RowKit
/-- The program's lists that are open, in memory. -/
def OL (base b : Nat) (L : List Int) (w : World) : Prop :=
  base ≤ b ∧ ∃ v, w.heap[b]? = some (.cells #[v] 64 (0, 0)) ∧ w.ownsRow base 3 1 v L.length (ints L) ∧ v.ownBlock ≠ some b
theorem heap_set1 {W : World} {b : Nat} {u v : Value} {ty : TypeId} (h : W.heap[b]? = some (.cells #[u] ty (0, 0))) : (W.setCell ⟨b, 0, none⟩ v).heap[b]? = some (.cells #[v] ty (0, 0)) := by
  obtain ⟨hlt, hk⟩ := Array.getElem?_eq_some_iff.1 h
  show (W.heap.modify b _)[b]? = _
  rw [Array.getElem?_eq_getElem (by rw [Array.size_modify]; exact hlt), Array.getElem_modify_self, hk]
  simp
theorem own_other {W W' : World} {base : Nat} {e : TypeId} {v : Value} {n : Nat} {xs : List Value} (h : W.ownsRow base e 1 v n xs) (hk : ∀ g, v.ownBlock = some g → W'.heap[g]? = W.heap[g]?) : W'.ownsRow base e 1 v n xs := by
  refine ⟨h.1, ?_⟩
  rcases h.2 with h0 | ⟨g, cap, cur, rfl, h1, h2, h3⟩
  · exact .inl h0
  · exact .inr ⟨g, cap, cur, rfl, h1, (hk g rfl).trans h2, h3⟩
theorem own_set {W : World} {base b : Nat} {e : TypeId} {v : Value} {n : Nat} {xs : List Value} (h : W.ownsRow base e 1 v n xs) (hb : v.ownBlock ≠ some b) (i : Nat) (u : Value) : (W.setCell ⟨b, i, none⟩ u).ownsRow base e 1 v n xs :=
  own_other h fun g hg => Below.heap_setCell W _ u g (fun e => hb (by rw [hg]; exact congrArg some e))
theorem own_cut {W : World} {base : Nat} {e : TypeId} {p : Option Addr} {n c : Nat} {xs ys : List Value} (h : W.ownsRow base e 1 (.slice p n c) n (xs ++ ys)) : W.ownsRow base e 1 (.slice p xs.length c) xs.length xs := by
  obtain ⟨h0, h1⟩ := h
  rw [List.length_append] at h0
  refine ⟨by omega, ?_⟩
  rcases h1 with ⟨hv, hn⟩ | ⟨g, cap, cur, hv, h2, h3, h4, h5, h6, h7⟩
  · subst hn
    have e : xs.length = 0 := by omega
    cases hv
    exact .inl ⟨by rw [e], e⟩
  · cases hv
    refine .inr ⟨g, c, cur, rfl, h2, h3, by omega, h5, h6, ?_⟩
    have h8 := congrArg (List.take xs.length) h7
    rw [List.take_take, List.take_append_of_le_length (Nat.le_refl _), List.take_length, Nat.min_eq_left (by omega)] at h8
    rw [Nat.mul_one]
    exact h8
theorem ret_i {k : IntKind} {a b : Int} (h : a = b) : Ending.returned (.int k a) = .returned (.int k b) := by rw [h]
theorem ints_app (P M : List Int) : ints (P ++ M) = ints M ++ ints P := by simp [ints]
theorem kept_set {b : Nat} {a W : World} (h : Lib.OthersKept 3 (some b) a W) {g : Nat} {cur : Array Value} {fz : Nat × Nat} (hg : W.heap[g]? = some (.cells cur 3 fz)) (i : Nat) (u : Value) : Lib.OthersKept 3 (some b) a (W.setCell ⟨g, i, none⟩ u) := by
  intro k o hk hkb ho
  have h1 := h k o hk hkb ho
  have hkg : k ≠ g := by
    rintro rfl
    rw [hg] at h1
    exact ho _ _ (Option.some.inj h1).symm
  rw [Below.heap_setCell W _ u k hkg]; exact h1
theorem own_row {W : World} {base g n c : Nat} {xs : List Value} {e : TypeId} (h : W.ownsRow base e 1 (.slice (some ⟨g, 0, none⟩) n c) n xs) : ∃ cur, W.heap[g]? = some (.cells cur e (0, 0)) := by
  rcases h.2 with ⟨hv, _⟩ | ⟨g', cap, cur, hv, _, h3, _⟩
  · cases hv
  · cases hv; exact ⟨cur, h3⟩
theorem own_kind {W : World} {base : Nat} {v : Value} {n : Nat} {xs : List Value} {e : TypeId} (h : W.ownsRow base e 1 v n xs) : ∀ g, v.ownBlock = some g → ∃ c fz, W.heap[g]? = some (.cells c e fz) := by
  intro g hg
  rcases h.2 with ⟨rfl, _⟩ | ⟨g', cap, cur, rfl, _, h3, _⟩
  · cases hg
  · cases hg; exact ⟨cur, _, h3⟩
set_option maxRecDepth 100000 in
set_option maxHeartbeats 4000000 in
theorem take_leaf (base b : Nat) (g c : Nat) (a : Int) (r : List Int) (L : List Int) (hL : L = (a :: r)) (nd : Nd) (q : Int) (w : World) (hb : base ≤ b) (hbk : w.heap[b]? = some (.cells #[(.slice (some ⟨g, 0, none⟩) (r.length + 1) c)] 64 (0, 0)))
    (hown : w.ownsRow base 3 1 (.slice (some ⟨g, 0, none⟩) (r.length + 1) c) (r.length + 1) (ints (a :: r))) (hne : Value.ownBlock (.slice (some ⟨g, 0, none⟩) (r.length + 1) c) ≠ some b) (ha : 1 ≤ a) (ha' : a ≤ 9223372036854775807) (hl : r.length + 1 ≤ 200) (hk : nd.kind ≠ 1) (hbw : base ≤ w.heap.size) :
    Calls Tryd.prog 38 #[.pointer (some ⟨b, 0, none⟩), .agg #[.int .i64 nd.kind, .string nd.text, .int .i64 nd.kids, .int .i64 q]] w fun e w' =>
      e = .returned (.int .i64 (closedL nd L : Nat)) ∧ OL base b (stepL nd L) w' ∧ Below base w w' ∧ Lib.OthersKept 3 (some b) w w' := by
  obtain ⟨i0, hinf, hz0, hz1, hz2⟩ := info_parts Tryd.info_int
  have HBB := hidG hb
  have cb : w.cell? ⟨b, 0, none⟩ = some (.slice (some ⟨g, 0, none⟩) (r.length + 1) c) := by rw [Lib.cell_of_heap hbk]; rfl
  have lb := World.block_lt_of_cell? w _ cb
  have hgb : g ≠ b := fun e => hne (by rw [← e]; rfl)
  have hc0 := hown.cellAt r.length (by simp)
  rw [ints_at] at hc0
  have hf0 := hown.frozenAt r.length
  have hst := hown.stored r.length (.int .i64 (a - 1))
  rw [ints_set] at hst
  have hown2 := hst.1
  have hg := hown.lt g rfl
  have lg := hg.2
  have hcap := own_cap hown
  have hbk2 : (w.setCell ⟨g, r.length, none⟩ (.int .i64 (a - 1))).heap[b]? = some (.cells #[.slice (some ⟨g, 0, none⟩) (r.length + 1) c] 64 (0, 0)) := (Below.heap_setCell w _ _ b (fun e => hgb e.symm)).trans hbk
  have cb2 : (w.setCell ⟨g, r.length, none⟩ (.int .i64 (a - 1))).cell? ⟨b, 0, none⟩ = some (.slice (some ⟨g, 0, none⟩) (r.length + 1) c) := by
    rw [World.cell?_setCell_far _ _ _ _ hgb]; exact cb
  have HB2 : Hid (Below base w (w.setCell ⟨g, r.length, none⟩ (.int .i64 (a - 1)))) := (Below.refl _ _).setCell (p := ⟨g, r.length, none⟩) hg.1 _
  have HK2 : Hid (Lib.OthersKept 3 (some b) w (w.setCell ⟨g, r.length, none⟩ (.int .i64 (a - 1)))) := by
    obtain ⟨cur, hcur⟩ := own_row hown
    exact kept_set (Lib.OthersKept.refl _ _ _) hcur _ _
  clear hst
  have e1 : (nd.kind == 1) = false := by rw [beq_eq_false_iff_ne]; exact hk
  have HSP : Hid (popZ ((a - 1) :: r) = stepL nd L) := by unfold Hid; rw [hL]; simp [stepL, pushL, hk, decL]
  have HPL : Hid (pushL nd L = ((a - 1) :: r)) := by unfold Hid; rw [hL]; simp [pushL, hk, decL]
  clear hk hL
  go_enter Tryd.func38, Tryd.ntmps38
  go_wp2_with fail
  obtain ⟨W, hW⟩ : ∃ W, ((w.setCell ⟨g, r.length, none⟩ (.int .i64 (a - 1))).alloc (.cells #[.int .i64 nd.kind, .string nd.text, .int .i64 nd.kids, .int .i64 q] 31)) = W := ⟨_, rfl⟩
  rw [hW]
  have hbk3 : W.heap[b]? = some (.cells #[.slice (some ⟨g, 0, none⟩) (r.length + 1) c] 64 (0, 0)) := by
    rw [← hW]; exact ((below_alloc _ _).block b (by simpa using lb)).trans hbk2
  have hown3 := (hown2.alloc (.cells #[.int .i64 nd.kind, .string nd.text, .int .i64 nd.kids, .int .i64 q] 31))
  rw [hW] at hown3
  have HB3 : Hid (Below base w W) := by unfold Hid; rw [← hW]; exact HB2.out.alloc (by simpa using hbw) _
  have HK3 : Hid (Lib.OthersKept 3 (some b) w W) := by unfold Hid; rw [← hW]; exact HK2.out.alloc _
  have hne3 := hne
  clear hW hown2 cb cb2 hc0 hf0 hcap
  have cb3 : W.cell? ⟨b, 0, none⟩ = some (.slice (some ⟨g, 0, none⟩) (r.length + 1) c) := by rw [Lib.cell_of_heap hbk3]; rfl
  have fb3 : W.frozen? ⟨b, 0, none⟩ = false := Lib.frozen_of_heap hbk3 0
  have hcap3 := own_cap hown3
  have HO3 := hidG hown3
  clear hown3
  go_wp2_with fail
  go_loop [6] (fun kv => ∃ P M' : List Int, ((a - 1) :: r) = P ++ M' ∧ kv = .int .i64 (M'.length : Nat) ∧ popZ M' = stepL nd L) (fun kv => (intOf kv).toNat)
  case atStart => exact ⟨[], ((a - 1) :: r), rfl, by go_num, HSP.out⟩
  case round =>
    obtain ⟨P, M', hPM, rfl, hpop⟩ := hrel
    have hlen : M'.length ≤ r.length + 1 := by have := congrArg List.length hPM; simp at this; omega
    have HPM := hidG hPM
    rcases M' with _ | ⟨m, M'⟩
    · have HES : Hid (stepL nd L = []) := hpop.symm
      clear hPM hpop
      have HCL : Hid ((closedL nd L : Int) = ((r.length : Int) + 1) - 0) := by
        unfold Hid closedL
        rw [HPL.out, HES.out]
        have := congrArg List.length HPM.out
        simp only [List.length_append, List.length_cons, List.length_nil] at this ⊢
        omega
      have HOC : Hid (W.ownsRow base 3 1 (.slice (some ⟨g, 0, none⟩) (0) c) (stepL nd L).length (ints (stepL nd L))) := by
        have h := HO3.out
        unfold Hid
        rw [HPM.out, ints_app] at h
        have h2 := own_cut h
        rw [ints_len] at h2
        rw [HES.out]
        exact h2
      go_wp2_with fail
      go_ret
      refine ⟨?_, ⟨HBB.out, _, heap_set1 hbk3, own_set (b := b) (HOC.out) hne3 0 _, hne3⟩, HB3.out.setCell (p := ⟨b, 0, none⟩) HBB.out _, HK3.out.setCell ⟨b, 0, none⟩ rfl _⟩
      exact ret_i HCL.out.symm
    · have hcm := HO3.out.cellAt M'.length (by have h' : M'.length + 1 ≤ r.length + 1 := hlen; omega)
      rw [hPM, ints_app, List.getElem?_append_left (by rw [ints_len]; simp), ints_at] at hcm
      have hlen' : M'.length + 1 ≤ r.length + 1 := hlen
      by_cases hm0 : m = 0
      · subst hm0
        have HM2 : Hid (popZ M' = stepL nd L) := by have := hpop; simp only [popZ, if_true] at this; exact this
        clear hPM hpop hlen
        go_wp2_with fail
        go_round
        case rel => exact ⟨P ++ [0], M', by rw [HPM.out]; simp, by go_num, HM2.out⟩
        case measure => simp [intOf]
      · have hm1 : (m == 0) = false := by rw [beq_eq_false_iff_ne]; exact hm0
        have HES : Hid (stepL nd L = m :: M') := by have := hpop; simp only [popZ, if_neg hm0] at this; exact this.symm
        clear hPM hpop hm0 hlen
        have HCL : Hid ((closedL nd L : Int) = ((r.length : Int) + 1) - (M'.length + 1)) := by
          unfold Hid closedL
          rw [HPL.out, HES.out]
          have := congrArg List.length HPM.out
          simp only [List.length_append, List.length_cons] at this ⊢
          omega
        have HOC : Hid (W.ownsRow base 3 1 (.slice (some ⟨g, 0, none⟩) (M'.length + 1) c) (stepL nd L).length (ints (stepL nd L))) := by
          have h := HO3.out
          unfold Hid
          rw [HPM.out, ints_app] at h
          have h2 := own_cut h
          rw [ints_len] at h2
          rw [HES.out]
          exact h2
        go_wp2_with fail
        go_ret
        refine ⟨?_, ⟨HBB.out, _, heap_set1 hbk3, own_set (b := b) (HOC.out) hne3 0 _, hne3⟩, HB3.out.setCell (p := ⟨b, 0, none⟩) HBB.out _, HK3.out.setCell ⟨b, 0, none⟩ rfl _⟩
        exact ret_i HCL.out.symm
set_option maxRecDepth 100000 in
set_option maxHeartbeats 4000000 in
theorem take_list (base b : Nat) (g c : Nat) (a : Int) (r : List Int) (L : List Int) (hL : L = (a :: r)) (nd : Nd) (q : Int) (w : World) (hb : base ≤ b) (hbk : w.heap[b]? = some (.cells #[(.slice (some ⟨g, 0, none⟩) (r.length + 1) c)] 64 (0, 0)))
    (hown : w.ownsRow base 3 1 (.slice (some ⟨g, 0, none⟩) (r.length + 1) c) (r.length + 1) (ints (a :: r))) (hne : Value.ownBlock (.slice (some ⟨g, 0, none⟩) (r.length + 1) c) ≠ some b) (ha : 1 ≤ a) (ha' : a ≤ 9223372036854775807) (hl : r.length + 1 ≤ 200) (hk : nd.kind = 1) (hbw : base ≤ w.heap.size) :
    Calls Tryd.prog 38 #[.pointer (some ⟨b, 0, none⟩), .agg #[.int .i64 nd.kind, .string nd.text, .int .i64 nd.kids, .int .i64 q]] w fun e w' =>
      e = .returned (.int .i64 (closedL nd L : Nat)) ∧ OL base b (stepL nd L) w' ∧ Below base w w' ∧ Lib.OthersKept 3 (some b) w w' := by
  obtain ⟨i0, hinf, hz0, hz1, hz2⟩ := info_parts Tryd.info_int
  have HBB := hidG hb
  have cb : w.cell? ⟨b, 0, none⟩ = some (.slice (some ⟨g, 0, none⟩) (r.length + 1) c) := by rw [Lib.cell_of_heap hbk]; rfl
  have lb := World.block_lt_of_cell? w _ cb
  have hgb : g ≠ b := fun e => hne (by rw [← e]; rfl)
  have hc0 := hown.cellAt r.length (by simp)
  rw [ints_at] at hc0
  have hf0 := hown.frozenAt r.length
  have hst := hown.stored r.length (.int .i64 (a - 1))
  rw [ints_set] at hst
  have hown2 := hst.1
  have hg := hown.lt g rfl
  have lg := hg.2
  have hcap := own_cap hown
  have hbk2 : (w.setCell ⟨g, r.length, none⟩ (.int .i64 (a - 1))).heap[b]? = some (.cells #[.slice (some ⟨g, 0, none⟩) (r.length + 1) c] 64 (0, 0)) := (Below.heap_setCell w _ _ b (fun e => hgb e.symm)).trans hbk
  have cb2 : (w.setCell ⟨g, r.length, none⟩ (.int .i64 (a - 1))).cell? ⟨b, 0, none⟩ = some (.slice (some ⟨g, 0, none⟩) (r.length + 1) c) := by
    rw [World.cell?_setCell_far _ _ _ _ hgb]; exact cb
  have HB2 : Hid (Below base w (w.setCell ⟨g, r.length, none⟩ (.int .i64 (a - 1)))) := (Below.refl _ _).setCell (p := ⟨g, r.length, none⟩) hg.1 _
  have HK2 : Hid (Lib.OthersKept 3 (some b) w (w.setCell ⟨g, r.length, none⟩ (.int .i64 (a - 1)))) := by
    obtain ⟨cur, hcur⟩ := own_row hown
    exact kept_set (Lib.OthersKept.refl _ _ _) hcur _ _
  clear hst
  have e1 : (nd.kind == 1) = true := by rw [beq_iff_eq]; exact hk
  have HSP : Hid (popZ (nd.kids :: ((a - 1) :: r)) = stepL nd L) := by unfold Hid; rw [hL]; simp [stepL, pushL, hk, decL]
  have HPL : Hid (pushL nd L = (nd.kids :: ((a - 1) :: r))) := by unfold Hid; rw [hL]; simp [pushL, hk, decL]
  clear hk hL
  go_enter Tryd.func38, Tryd.ntmps38
  go_wp2_with fail
  obtain ⟨W1, hW1⟩ : ∃ W, ((w.setCell ⟨g, r.length, none⟩ (.int .i64 (a - 1))).alloc (.cells #[.int .i64 nd.kind, .string nd.text, .int .i64 nd.kids, .int .i64 q] 31)) = W := ⟨_, rfl⟩
  have hs1 : W1.heap.size = w.heap.size + 1 := by rw [← hW1]; simp
  have hbk1 : W1.heap[b]? = some (.cells #[(.slice (some ⟨g, 0, none⟩) (r.length + 1) c)] 64 (0, 0)) := by
    rw [← hW1]; exact ((below_alloc _ _).block b (by simpa using lb)).trans hbk2
  have hown1 := hown2.alloc (.cells #[.int .i64 nd.kind, .string nd.text, .int .i64 nd.kids, .int .i64 q] 31)
  rw [hW1] at hown1
  have cb1 : W1.cell? ⟨b, 0, none⟩ = some (.slice (some ⟨g, 0, none⟩) (r.length + 1) c) := by rw [Lib.cell_of_heap hbk1]; rfl
  have fb1 : W1.frozen? ⟨b, 0, none⟩ = false := Lib.frozen_of_heap hbk1 0
  have cn1 : W1.cell? ⟨w.heap.size, 2, none⟩ = some (.int .i64 nd.kids) := by
    have hx := (bx_new (w.setCell ⟨g, r.length, none⟩ (.int .i64 (a - 1))) [.int .i64 nd.kind, .string nd.text, .int .i64 nd.kids, .int .i64 q] 31)
    rw [show (w.setCell ⟨g, r.length, none⟩ (.int .i64 (a - 1))).heap.size = w.heap.size by simp] at hx
    rw [← hW1]
    exact hx.cell 2
  have hnn : Value.ownBlock (.slice (some ⟨g, 0, none⟩) (r.length + 1) c) ≠ some w.heap.size := by intro e; have := (hown1.lt _ e).2; have h2 := (hown.lt _ e).2; omega
  have HB1 : Hid (Below base w W1) := by unfold Hid; rw [← hW1]; exact HB2.out.alloc (by simpa using hbw) _
  have HK1 : Hid (Lib.OthersKept 3 (some b) w W1) := by unfold Hid; rw [← hW1]; exact HK2.out.alloc _
  have hbw1 : base ≤ W1.heap.size := by omega
  rw [hW1]
  have HNW : Hid (∀ j u, [Value.int .i64 nd.kids][j]? = some u → ((W1.alloc (.cells #[.int .i64 nd.kids] 3)).drew).cell? ((⟨w.heap.size + 1, 0, none⟩ : Addr).add j) = some u) := by
    have h := World.news_of_block (cs := #[.int .i64 nd.kids]) (t := 3) (fr := (0, 0)) (heap_alloc_new W1 (.cells #[.int .i64 nd.kids] 3))
    rw [hs1] at h
    exact h
  have hbA : ((W1.alloc (.cells #[.int .i64 nd.kids] 3)).drew).heap[b]? = some (.cells #[(.slice (some ⟨g, 0, none⟩) (r.length + 1) c)] 64 (0, 0)) := ((below_alloc W1 _).block b (by omega)).trans hbk1
  have HA1 : Hid (((W1.alloc (.cells #[.int .i64 nd.kids] 3)).drew).cell? ⟨b, 0, none⟩ = some (.slice (some ⟨g, 0, none⟩) (r.length + 1) c)) := by unfold Hid; rw [Lib.cell_of_heap hbA]; rfl
  have HA2 : Hid (((W1.alloc (.cells #[.int .i64 nd.kids] 3)).drew).cell? ⟨w.heap.size, 2, none⟩ = some (.int .i64 nd.kids)) := by
    have hx := (bx_new (w.setCell ⟨g, r.length, none⟩ (.int .i64 (a - 1))) [.int .i64 nd.kind, .string nd.text, .int .i64 nd.kids, .int .i64 q] 31)
    rw [show (w.setCell ⟨g, r.length, none⟩ (.int .i64 (a - 1))).heap.size = w.heap.size by simp] at hx
    have hx2 : Bx W1 w.heap.size [.int .i64 nd.kind, .string nd.text, .int .i64 nd.kids, .int .i64 q] := by rw [← hW1]; exact hx
    exact ((hx2.alloc _).drew).cell 2
  have HA3 : Hid (((W1.alloc (.cells #[.int .i64 nd.kids] 3)).drew).frozen? ⟨b, 0, none⟩ = false) := Lib.frozen_of_heap hbA 0
  have HBA := hidG hbA
  clear hW1 hbA
  go_region_law
    ((refine step_append_lies _ (by rfl) _ _ _ (by rfl) base 3 i0 _ 1 8 Tryd.underlying38 hinf hz0 hz1 hz2 rfl (by omega) (.slice (some ⟨g, 0, none⟩) (r.length + 1) c) (r.length + 1) (ints ((a - 1) :: r)) (by rfl) ((hown1.alloc _).drew)
        ⟨w.heap.size + 1, 0, none⟩ 1 1 [.int .i64 nd.kids] (by rfl) (by rfl) HNW.out (by simp [Value.oneCell'])
        (by omega) (by unfold maxLen; omega) (by omega) (by simp; omega) (w.heap.size + 2) (by simp; omega) ?_; intro g3 c3 w3 hown3 hgrow hat hlt; have d1 := (hgrow.cell_far ⟨b, 0, none⟩ (by simp; omega) (Ne.symm hne)).trans HA1.out; have d2 := (hgrow.frozen_far ⟨b, 0, none⟩ (by simp; omega) (Ne.symm hne)).trans HA3.out))
  all_goals
    obtain ⟨W, hW⟩ : ∃ W, w3.setCell ⟨b, 0, none⟩ (.slice (some ⟨g3, 0, none⟩) (r.length + 1 + 1) c3) = W := ⟨_, rfl⟩
    have hb3 := (hgrow.block b (by simp; omega) (Ne.symm hne)).trans HBA.out
    have hbk3 := heap_set1 (v := .slice (some ⟨g3, 0, none⟩) (r.length + 1 + 1) c3) hb3
    have hne3 : Value.ownBlock (.slice (some ⟨g3, 0, none⟩) (r.length + 1 + 1) c3) ≠ some b := by
      rcases hat with h | h
      · rw [show Value.ownBlock (.slice (some ⟨g3, 0, none⟩) (r.length + 1 + 1) c3) = some g3 from rfl, ← h]; exact hne
      · rw [show Value.ownBlock (.slice (some ⟨g3, 0, none⟩) (r.length + 1 + 1) c3) = some g3 from rfl]; intro e; cases e; omega
    rw [← ints_cons] at hown3
    have hown4 := own_set (b := b) hown3 hne3 0 (.slice (some ⟨g3, 0, none⟩) (r.length + 1 + 1) c3)
    rw [hW] at hbk3 hown4 ⊢
    have HB3 : Hid (Below base w W) := by
      unfold Hid; rw [← hW]
      exact ((((HB1.out.alloc hbw1 _).drew).grown hgrow (by simp; omega) (fun k e => (hown1.lt k e).1))).setCell (p := ⟨b, 0, none⟩) hb _
    have HK3 : Hid (Lib.OthersKept 3 (some b) w W) := by
      unfold Hid; rw [← hW]
      exact ((((HK1.out.alloc _).drew).grown hgrow (own_kind ((hown1.alloc _).drew)))).setCell ⟨b, 0, none⟩ rfl _
    clear hown3
    have hown3 := hown4
    clear hW hown4 hb3 d1 d2 hgrow hat hlt hown1 hbk1 cb1 cn1 fb1 hown2 cb cb2 hc0 hf0 hcap
    have cb3 : W.cell? ⟨b, 0, none⟩ = some (.slice (some ⟨g3, 0, none⟩) (r.length + 1 + 1) c3) := by rw [Lib.cell_of_heap hbk3]; rfl
    have fb3 : W.frozen? ⟨b, 0, none⟩ = false := Lib.frozen_of_heap hbk3 0
    have hcap3 := own_cap hown3
    have HO3 := hidG hown3
    clear hown3
    go_wp2_with fail
    go_loop [6] (fun kv => ∃ P M' : List Int, (nd.kids :: ((a - 1) :: r)) = P ++ M' ∧ kv = .int .i64 (M'.length : Nat) ∧ popZ M' = stepL nd L) (fun kv => (intOf kv).toNat)
    case atStart => exact ⟨[], (nd.kids :: ((a - 1) :: r)), rfl, by go_num, HSP.out⟩
    case round =>
      obtain ⟨P, M', hPM, rfl, hpop⟩ := hrel
      have hlen : M'.length ≤ r.length + 1 + 1 := by have := congrArg List.length hPM; simp at this; omega
      have HPM := hidG hPM
      rcases M' with _ | ⟨m, M'⟩
      · have HES : Hid (stepL nd L = []) := hpop.symm
        clear hPM hpop
        have HCL : Hid ((closedL nd L : Int) = ((r.length : Int) + 1 + 1) - 0) := by
          unfold Hid closedL
          rw [HPL.out, HES.out]
          have := congrArg List.length HPM.out
          simp only [List.length_append, List.length_cons, List.length_nil] at this ⊢
          omega
        have HOC : Hid (W.ownsRow base 3 1 (.slice (some ⟨g3, 0, none⟩) (0) c3) (stepL nd L).length (ints (stepL nd L))) := by
          have h := HO3.out
          unfold Hid
          rw [HPM.out, ints_app] at h
          have h2 := own_cut h
          rw [ints_len] at h2
          rw [HES.out]
          exact h2
        go_wp2_with fail
        go_ret
        refine ⟨?_, ⟨HBB.out, _, heap_set1 hbk3, own_set (b := b) (HOC.out) hne3 0 _, hne3⟩, HB3.out.setCell (p := ⟨b, 0, none⟩) HBB.out _, HK3.out.setCell ⟨b, 0, none⟩ rfl _⟩
        exact ret_i HCL.out.symm
      · have hcm := HO3.out.cellAt M'.length (by have h' : M'.length + 1 ≤ r.length + 1 + 1 := hlen; omega)
        rw [hPM, ints_app, List.getElem?_append_left (by rw [ints_len]; simp), ints_at] at hcm
        have hlen' : M'.length + 1 ≤ r.length + 1 + 1 := hlen
        by_cases hm0 : m = 0
        · subst hm0
          have HM2 : Hid (popZ M' = stepL nd L) := by have := hpop; simp only [popZ, if_true] at this; exact this
          clear hPM hpop hlen
          go_wp2_with fail
          go_round
          case rel => exact ⟨P ++ [0], M', by rw [HPM.out]; simp, by go_num, HM2.out⟩
          case measure => simp [intOf]
        · have hm1 : (m == 0) = false := by rw [beq_eq_false_iff_ne]; exact hm0
          have HES : Hid (stepL nd L = m :: M') := by have := hpop; simp only [popZ, if_neg hm0] at this; exact this.symm
          clear hPM hpop hm0 hlen
          have HCL : Hid ((closedL nd L : Int) = ((r.length : Int) + 1 + 1) - (M'.length + 1)) := by
            unfold Hid closedL
            rw [HPL.out, HES.out]
            have := congrArg List.length HPM.out
            simp only [List.length_append, List.length_cons] at this ⊢
            omega
          have HOC : Hid (W.ownsRow base 3 1 (.slice (some ⟨g3, 0, none⟩) (M'.length + 1) c3) (stepL nd L).length (ints (stepL nd L))) := by
            have h := HO3.out
            unfold Hid
            rw [HPM.out, ints_app] at h
            have h2 := own_cut h
            rw [ints_len] at h2
            rw [HES.out]
            exact h2
          go_wp2_with fail
          go_ret
          refine ⟨?_, ⟨HBB.out, _, heap_set1 hbk3, own_set (b := b) (HOC.out) hne3 0 _, hne3⟩, HB3.out.setCell (p := ⟨b, 0, none⟩) HBB.out _, HK3.out.setCell ⟨b, 0, none⟩ rfl _⟩
          exact ret_i HCL.out.symm
set_option maxRecDepth 100000 in
set_option maxHeartbeats 4000000 in
theorem take_list0 (base b : Nat) (p : Option Addr) (c : Nat) (L : List Int) (hL : L = []) (nd : Nd) (q : Int) (w : World) (hb : base ≤ b) (hbk : w.heap[b]? = some (.cells #[(.slice p 0 c)] 64 (0, 0)))
    (hown : w.ownsRow base 3 1 (.slice p 0 c) 0 (ints [])) (hne : Value.ownBlock (.slice p 0 c) ≠ some b) (hk : nd.kind = 1) (hbw : base ≤ w.heap.size) :
    Calls Tryd.prog 38 #[.pointer (some ⟨b, 0, none⟩), .agg #[.int .i64 nd.kind, .string nd.text, .int .i64 nd.kids, .int .i64 q]] w fun e w' =>
      e = .returned (.int .i64 (closedL nd L : Nat)) ∧ OL base b (stepL nd L) w' ∧ Below base w w' ∧ Lib.OthersKept 3 (some b) w w' := by
  obtain ⟨i0, hinf, hz0, hz1, hz2⟩ := info_parts Tryd.info_int
  have HBB := hidG hb
  have cb : w.cell? ⟨b, 0, none⟩ = some (.slice p 0 c) := by rw [Lib.cell_of_heap hbk]; rfl
  have lb := World.block_lt_of_cell? w _ cb
  have e1 : (nd.kind == 1) = true := by rw [beq_iff_eq]; exact hk
  have HSP : Hid (popZ (nd.kids :: []) = stepL nd L) := by unfold Hid; rw [hL]; simp [stepL, pushL, hk, decL]
  have HPL : Hid (pushL nd L = (nd.kids :: [])) := by unfold Hid; rw [hL]; simp [pushL, hk, decL]
  clear hk hL
  go_enter Tryd.func38, Tryd.ntmps38
  go_wp2_with fail
  obtain ⟨W1, hW1⟩ : ∃ W, (w.alloc (.cells #[.int .i64 nd.kind, .string nd.text, .int .i64 nd.kids, .int .i64 q] 31)) = W := ⟨_, rfl⟩
  have hs1 : W1.heap.size = w.heap.size + 1 := by rw [← hW1]; simp
  have hbk1 : W1.heap[b]? = some (.cells #[(.slice p 0 c)] 64 (0, 0)) := by
    rw [← hW1]; exact ((below_alloc _ _).block b (by simpa using lb)).trans hbk
  have hown1 := hown.alloc (.cells #[.int .i64 nd.kind, .string nd.text, .int .i64 nd.kids, .int .i64 q] 31)
  rw [hW1] at hown1
  have cb1 : W1.cell? ⟨b, 0, none⟩ = some (.slice p 0 c) := by rw [Lib.cell_of_heap hbk1]; rfl
  have fb1 : W1.frozen? ⟨b, 0, none⟩ = false := Lib.frozen_of_heap hbk1 0
  have cn1 : W1.cell? ⟨w.heap.size, 2, none⟩ = some (.int .i64 nd.kids) := by
    have hx := (bx_new (w) [.int .i64 nd.kind, .string nd.text, .int .i64 nd.kids, .int .i64 q] 31)
    rw [show (w).heap.size = w.heap.size by simp] at hx
    rw [← hW1]
    exact hx.cell 2
  have hnn : Value.ownBlock (.slice p 0 c) ≠ some w.heap.size := by intro e; have := (hown1.lt _ e).2; have h2 := (hown.lt _ e).2; omega
  have HB1 : Hid (Below base w W1) := by unfold Hid; rw [← hW1]; exact (Below.refl _ w).alloc (by simpa using hbw) _
  have HK1 : Hid (Lib.OthersKept 3 (some b) w W1) := by unfold Hid; rw [← hW1]; exact (Lib.OthersKept.refl _ _ w).alloc _
  have hbw1 : base ≤ W1.heap.size := by omega
  rw [hW1]
  have HNW : Hid (∀ j u, [Value.int .i64 nd.kids][j]? = some u → ((W1.alloc (.cells #[.int .i64 nd.kids] 3)).drew).cell? ((⟨w.heap.size + 1, 0, none⟩ : Addr).add j) = some u) := by
    have h := World.news_of_block (cs := #[.int .i64 nd.kids]) (t := 3) (fr := (0, 0)) (heap_alloc_new W1 (.cells #[.int .i64 nd.kids] 3))
    rw [hs1] at h
    exact h
  have hbA : ((W1.alloc (.cells #[.int .i64 nd.kids] 3)).drew).heap[b]? = some (.cells #[(.slice p 0 c)] 64 (0, 0)) := ((below_alloc W1 _).block b (by omega)).trans hbk1
  have HA1 : Hid (((W1.alloc (.cells #[.int .i64 nd.kids] 3)).drew).cell? ⟨b, 0, none⟩ = some (.slice p 0 c)) := by unfold Hid; rw [Lib.cell_of_heap hbA]; rfl
  have HA2 : Hid (((W1.alloc (.cells #[.int .i64 nd.kids] 3)).drew).cell? ⟨w.heap.size, 2, none⟩ = some (.int .i64 nd.kids)) := by
    have hx := (bx_new (w) [.int .i64 nd.kind, .string nd.text, .int .i64 nd.kids, .int .i64 q] 31)
    rw [show (w).heap.size = w.heap.size by simp] at hx
    have hx2 : Bx W1 w.heap.size [.int .i64 nd.kind, .string nd.text, .int .i64 nd.kids, .int .i64 q] := by rw [← hW1]; exact hx
    exact ((hx2.alloc _).drew).cell 2
  have HA3 : Hid (((W1.alloc (.cells #[.int .i64 nd.kids] 3)).drew).frozen? ⟨b, 0, none⟩ = false) := Lib.frozen_of_heap hbA 0
  have HBA := hidG hbA
  clear hW1 hbA
  go_region_law
    ((refine step_append_lies _ (by rfl) _ _ _ (by rfl) base 3 i0 _ 1 8 Tryd.underlying38 hinf hz0 hz1 hz2 rfl (by omega) (.slice p 0 c) 0 (ints []) (by rfl) ((hown1.alloc _).drew)
        ⟨w.heap.size + 1, 0, none⟩ 1 1 [.int .i64 nd.kids] (by rfl) (by rfl) HNW.out (by simp [Value.oneCell'])
        (by omega) (by unfold maxLen; omega) (by omega) (by simp; omega) (w.heap.size + 2) (by simp; omega) ?_; intro g3 c3 w3 hown3 hgrow hat hlt; have d1 := (hgrow.cell_far ⟨b, 0, none⟩ (by simp; omega) (Ne.symm hne)).trans HA1.out; have d2 := (hgrow.frozen_far ⟨b, 0, none⟩ (by simp; omega) (Ne.symm hne)).trans HA3.out))
  all_goals
    obtain ⟨W, hW⟩ : ∃ W, w3.setCell ⟨b, 0, none⟩ (.slice (some ⟨g3, 0, none⟩) (1) c3) = W := ⟨_, rfl⟩
    have hb3 := (hgrow.block b (by simp; omega) (Ne.symm hne)).trans HBA.out
    have hbk3 := heap_set1 (v := .slice (some ⟨g3, 0, none⟩) (1) c3) hb3
    have hne3 : Value.ownBlock (.slice (some ⟨g3, 0, none⟩) (1) c3) ≠ some b := by
      rcases hat with h | h
      · rw [show Value.ownBlock (.slice (some ⟨g3, 0, none⟩) (1) c3) = some g3 from rfl, ← h]; exact hne
      · rw [show Value.ownBlock (.slice (some ⟨g3, 0, none⟩) (1) c3) = some g3 from rfl]; intro e; cases e; omega
    rw [← ints_cons] at hown3
    have hown4 := own_set (b := b) hown3 hne3 0 (.slice (some ⟨g3, 0, none⟩) (1) c3)
    rw [hW] at hbk3 hown4 ⊢
    have HB3 : Hid (Below base w W) := by
      unfold Hid; rw [← hW]
      exact ((((HB1.out.alloc hbw1 _).drew).grown hgrow (by simp; omega) (fun k e => (hown1.lt k e).1))).setCell (p := ⟨b, 0, none⟩) hb _
    have HK3 : Hid (Lib.OthersKept 3 (some b) w W) := by
      unfold Hid; rw [← hW]
      exact ((((HK1.out.alloc _).drew).grown hgrow (own_kind ((hown1.alloc _).drew)))).setCell ⟨b, 0, none⟩ rfl _
    clear hown3
    have hown3 := hown4
    clear hW hown4 hb3 d1 d2 hgrow hat hlt hown1 hbk1 cb1 cn1 fb1 cb
    have cb3 : W.cell? ⟨b, 0, none⟩ = some (.slice (some ⟨g3, 0, none⟩) (1) c3) := by rw [Lib.cell_of_heap hbk3]; rfl
    have fb3 : W.frozen? ⟨b, 0, none⟩ = false := Lib.frozen_of_heap hbk3 0
    have hcap3 := own_cap hown3
    have HO3 := hidG hown3
    clear hown3
    go_wp2_with fail
    go_loop [6] (fun kv => ∃ P M' : List Int, (nd.kids :: []) = P ++ M' ∧ kv = .int .i64 (M'.length : Nat) ∧ popZ M' = stepL nd L) (fun kv => (intOf kv).toNat)
    case atStart => exact ⟨[], (nd.kids :: []), rfl, by go_num, HSP.out⟩
    case round =>
      obtain ⟨P, M', hPM, rfl, hpop⟩ := hrel
      have hlen : M'.length ≤ 1 := by have := congrArg List.length hPM; simp at this; omega
      have HPM := hidG hPM
      rcases M' with _ | ⟨m, M'⟩
      · have HES : Hid (stepL nd L = []) := hpop.symm
        clear hPM hpop
        have HCL : Hid ((closedL nd L : Int) = 1 - 0) := by
          unfold Hid closedL
          rw [HPL.out, HES.out]
          have := congrArg List.length HPM.out
          simp only [List.length_append, List.length_cons, List.length_nil] at this ⊢
          omega
        have HOC : Hid (W.ownsRow base 3 1 (.slice (some ⟨g3, 0, none⟩) (0) c3) (stepL nd L).length (ints (stepL nd L))) := by
          have h := HO3.out
          unfold Hid
          rw [HPM.out, ints_app] at h
          have h2 := own_cut h
          rw [ints_len] at h2
          rw [HES.out]
          exact h2
        go_wp2_with fail
        go_ret
        refine ⟨?_, ⟨HBB.out, _, heap_set1 hbk3, own_set (b := b) (HOC.out) hne3 0 _, hne3⟩, HB3.out.setCell (p := ⟨b, 0, none⟩) HBB.out _, HK3.out.setCell ⟨b, 0, none⟩ rfl _⟩
        exact ret_i HCL.out.symm
      · have hcm := HO3.out.cellAt M'.length (by have h' : M'.length + 1 ≤ 1 := hlen; omega)
        rw [hPM, ints_app, List.getElem?_append_left (by rw [ints_len]; simp), ints_at] at hcm
        have hlen' : M'.length + 1 ≤ 1 := hlen
        by_cases hm0 : m = 0
        · subst hm0
          have HM2 : Hid (popZ M' = stepL nd L) := by have := hpop; simp only [popZ, if_true] at this; exact this
          clear hPM hpop hlen
          go_wp2_with fail
          go_round
          case rel => exact ⟨P ++ [0], M', by rw [HPM.out]; simp, by go_num, HM2.out⟩
          case measure => simp [intOf]
        · have hm1 : (m == 0) = false := by rw [beq_eq_false_iff_ne]; exact hm0
          have HES : Hid (stepL nd L = m :: M') := by have := hpop; simp only [popZ, if_neg hm0] at this; exact this.symm
          clear hPM hpop hm0 hlen
          have HCL : Hid ((closedL nd L : Int) = 1 - (M'.length + 1)) := by
            unfold Hid closedL
            rw [HPL.out, HES.out]
            have := congrArg List.length HPM.out
            simp only [List.length_append, List.length_cons, List.length_nil] at this ⊢
            omega
          have HOC : Hid (W.ownsRow base 3 1 (.slice (some ⟨g3, 0, none⟩) (M'.length + 1) c3) (stepL nd L).length (ints (stepL nd L))) := by
            have h := HO3.out
            unfold Hid
            rw [HPM.out, ints_app] at h
            have h2 := own_cut h
            rw [ints_len] at h2
            rw [HES.out]
            exact h2
          go_wp2_with fail
          go_ret
          refine ⟨?_, ⟨HBB.out, _, heap_set1 hbk3, own_set (b := b) (HOC.out) hne3 0 _, hne3⟩, HB3.out.setCell (p := ⟨b, 0, none⟩) HBB.out _, HK3.out.setCell ⟨b, 0, none⟩ rfl _⟩
          exact ret_i HCL.out.symm
set_option maxRecDepth 100000 in
set_option maxHeartbeats 4000000 in
theorem take_leaf0 (base b : Nat) (p : Option Addr) (c : Nat) (L : List Int) (hL : L = []) (nd : Nd) (q : Int) (w : World) (hb : base ≤ b) (hbk : w.heap[b]? = some (.cells #[(.slice p 0 c)] 64 (0, 0)))
    (hown : w.ownsRow base 3 1 (.slice p 0 c) 0 (ints [])) (hne : Value.ownBlock (.slice p 0 c) ≠ some b) (hk : nd.kind ≠ 1) (hbw : base ≤ w.heap.size) :
    Calls Tryd.prog 38 #[.pointer (some ⟨b, 0, none⟩), .agg #[.int .i64 nd.kind, .string nd.text, .int .i64 nd.kids, .int .i64 q]] w fun e w' =>
      e = .returned (.int .i64 (closedL nd L : Nat)) ∧ OL base b (stepL nd L) w' ∧ Below base w w' ∧ Lib.OthersKept 3 (some b) w w' := by
  obtain ⟨i0, hinf, hz0, hz1, hz2⟩ := info_parts Tryd.info_int
  have HBB := hidG hb
  have cb : w.cell? ⟨b, 0, none⟩ = some (.slice p 0 c) := by rw [Lib.cell_of_heap hbk]; rfl
  have lb := World.block_lt_of_cell? w _ cb
  have e1 : (nd.kind == 1) = false := by rw [beq_eq_false_iff_ne]; exact hk
  have HSP : Hid (popZ [] = stepL nd L) := by unfold Hid; rw [hL]; simp [stepL, pushL, hk, decL]
  have HPL : Hid (pushL nd L = []) := by unfold Hid; rw [hL]; simp [pushL, hk, decL]
  clear hk hL
  rcases hown.2 with ⟨hv, _⟩ | ⟨g, cap, cur, hv, _, _, _, hcap, _, _⟩
  · cases hv
    go_enter Tryd.func38, Tryd.ntmps38
    go_wp2_with fail
    obtain ⟨W, hW⟩ : ∃ W, (w.alloc (.cells #[.int .i64 nd.kind, .string nd.text, .int .i64 nd.kids, .int .i64 q] 31)) = W := ⟨_, rfl⟩
    rw [hW]
    have hbk3 : W.heap[b]? = some (.cells #[.slice none 0 0] 64 (0, 0)) := by
      rw [← hW]; exact ((below_alloc _ _).block b lb).trans hbk
    have hown3 := (hown.alloc (.cells #[.int .i64 nd.kind, .string nd.text, .int .i64 nd.kids, .int .i64 q] 31))
    rw [hW] at hown3
    have HB3 : Hid (Below base w W) := by unfold Hid; rw [← hW]; exact (Below.refl _ w).alloc hbw _
    have HK3 : Hid (Lib.OthersKept 3 (some b) w W) := by unfold Hid; rw [← hW]; exact (Lib.OthersKept.refl _ _ w).alloc _
    have hne3 := hne
    clear hW cb
    have cb3 : W.cell? ⟨b, 0, none⟩ = some (.slice none 0 0) := by rw [Lib.cell_of_heap hbk3]; rfl
    have fb3 : W.frozen? ⟨b, 0, none⟩ = false := Lib.frozen_of_heap hbk3 0
    have HO3 := hidG hown3
    have HES : Hid (stepL nd L = []) := HSP.out.symm
    have HCL : Hid ((closedL nd L : Int) = 0) := by unfold Hid closedL; rw [HPL.out, HES.out]; rfl
    have HOC : Hid (W.ownsRow base 3 1 (.slice none 0 0) (stepL nd L).length (ints (stepL nd L))) := by unfold Hid; rw [HES.out]; exact HO3.out
    clear hown3
    go_loop [6] (fun kv => kv = .int .i64 0) (fun _ => 0)
    case atStart => rfl
    case round =>
      subst hrel
      go_wp2_with fail
      go_ret
      refine ⟨?_, ⟨HBB.out, _, heap_set1 hbk3, own_set (b := b) (HOC.out) hne3 0 _, hne3⟩, HB3.out.setCell (p := ⟨b, 0, none⟩) HBB.out _, HK3.out.setCell ⟨b, 0, none⟩ rfl _⟩
      exact ret_i HCL.out.symm
  · cases hv
    unfold maxLen at hcap
    go_enter Tryd.func38, Tryd.ntmps38
    go_wp2_with fail
    obtain ⟨W, hW⟩ : ∃ W, (w.alloc (.cells #[.int .i64 nd.kind, .string nd.text, .int .i64 nd.kids, .int .i64 q] 31)) = W := ⟨_, rfl⟩
    rw [hW]
    have hbk3 : W.heap[b]? = some (.cells #[.slice (some ⟨g, 0, none⟩) 0 c] 64 (0, 0)) := by
      rw [← hW]; exact ((below_alloc _ _).block b lb).trans hbk
    have hown3 := (hown.alloc (.cells #[.int .i64 nd.kind, .string nd.text, .int .i64 nd.kids, .int .i64 q] 31))
    rw [hW] at hown3
    have HB3 : Hid (Below base w W) := by unfold Hid; rw [← hW]; exact (Below.refl _ w).alloc hbw _
    have HK3 : Hid (Lib.OthersKept 3 (some b) w W) := by unfold Hid; rw [← hW]; exact (Lib.OthersKept.refl _ _ w).alloc _
    have hne3 := hne
    clear hW cb
    have cb3 : W.cell? ⟨b, 0, none⟩ = some (.slice (some ⟨g, 0, none⟩) 0 c) := by rw [Lib.cell_of_heap hbk3]; rfl
    have fb3 : W.frozen? ⟨b, 0, none⟩ = false := Lib.frozen_of_heap hbk3 0
    have HO3 := hidG hown3
    have HES : Hid (stepL nd L = []) := HSP.out.symm
    have HCL : Hid ((closedL nd L : Int) = 0) := by unfold Hid closedL; rw [HPL.out, HES.out]; rfl
    have HOC : Hid (W.ownsRow base 3 1 (.slice (some ⟨g, 0, none⟩) 0 c) (stepL nd L).length (ints (stepL nd L))) := by unfold Hid; rw [HES.out]; exact HO3.out
    clear hown3
    go_loop [6] (fun kv => kv = .int .i64 0) (fun _ => 0)
    case atStart => rfl
    case round =>
      subst hrel
      go_wp2_with fail
      go_ret
      refine ⟨?_, ⟨HBB.out, _, heap_set1 hbk3, own_set (b := b) (HOC.out) hne3 0 _, hne3⟩, HB3.out.setCell (p := ⟨b, 0, none⟩) HBB.out _, HK3.out.setCell ⟨b, 0, none⟩ rfl _⟩
      exact ret_i HCL.out.symm
theorem take_any (base b : Nat) (L : List Int) (nd : Nd) (q : Int) (w : World) (h : OL base b L w) (hL : L.length ≤ 200) (hp : posL L) (hbw : base ≤ w.heap.size) :
    Calls Tryd.prog 38 #[.pointer (some ⟨b, 0, none⟩), .agg #[.int .i64 nd.kind, .string nd.text, .int .i64 nd.kids, .int .i64 q]] w fun e w' =>
      e = .returned (.int .i64 (closedL nd L : Nat)) ∧ OL base b (stepL nd L) w' ∧ Below base w w' ∧ Lib.OthersKept 3 (some b) w w' := by
  obtain ⟨hb, v, hbk, hown, hne⟩ := h
  rcases L with _ | ⟨a, r⟩
  · obtain ⟨p, c, rfl⟩ := own_shape hown
    by_cases hk : nd.kind = 1
    · exact take_list0 base b p c [] rfl nd q w hb hbk hown hne hk hbw
    · exact take_leaf0 base b p c [] rfl nd q w hb hbk hown hne hk hbw
  · obtain ⟨g, c, rfl⟩ := ownsRow_succ hown
    have ha := hp.1 a (by simp)
    have ha1 := hp.2 a r rfl
    by_cases hk : nd.kind = 1
    · exact take_list base b g c a r _ rfl nd q w hb hbk hown hne ha1 ha.2 hL hk hbw
    · exact take_leaf base b g c a r _ rfl nd q w hb hbk hown hne ha1 ha.2 hL hk hbw
end Go.Proofs.YtdngpnlbhadbpaaDoor
