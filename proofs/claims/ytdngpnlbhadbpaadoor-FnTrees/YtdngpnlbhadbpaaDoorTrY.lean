import Derived.Test.YtdngpnlbhadbpaaDoorTrU
import Derived.WalkSmall
import Derived.Laws.OwnMore
import Derived.RangeFuncBox
namespace Go.Proofs.YtdngpnlbhadbpaaDoor
open Go.ChangeShapes Go.WideShapes Go.ChangeAt Go.RowKit
theorem Tryd.info_int : (Tryd.prog.info? 3).map (fun i => (i.zero, i.size, i.bytes)) = some (some (.int .i64 0), 1, 8) := by kernel_rfl
theorem own_below {w w' : World} {base : Nat} {e : TypeId} {v : Value} {n : Nat} {xs : List Value} (h : w.ownsRow base e 1 v n xs) (hb : Below w.heap.size w w') : w'.ownsRow base e 1 v n xs :=
  h.kept (row := none) ⟨hb.os, hb.tape, hb.output, hb.size, fun k hk _ => hb.block k hk⟩ (by cases v.ownBlock <;> simp)
/-- A row of nodes in memory, from the block's beginning. -/
def NodesAt (w : World) (b : Nat) (ns : List (Nd × Int)) : Prop :=
  ∀ i (h : i < ns.length), (w.cell? ⟨b, i * 4, none⟩ = some (.int .i64 ns[i].1.kind) ∧ w.cell? ⟨b, i * 4 + 1, none⟩ = some (.string ns[i].1.text) ∧ w.cell? ⟨b, i * 4 + 2, none⟩ = some (.int .i64 ns[i].1.kids) ∧ w.cell? ⟨b, i * 4 + 3, none⟩ = some (.int .i64 ns[i].2)) ∧ ns[i].1.text.size ≤ 1048576 ∧ ns[i].1.kids ≤ 9223372036854775807
theorem fitF_cons {n : Nd} {r : List Nd} {z : Nat} {l : List Int} : fitF (n :: r) z l = if 20000 < z + n.text.size ∨ nodeOk n = false ∨ (n.kind = 1 ∧ l.length = 200) then false else fitF r (z + n.text.size) (stepL n l) := rfl
theorem drop_nds {ns : List (Nd × Int)} {j : Nat} (h : j < ns.length) : (ns.map Prod.fst).drop j = ns[j].1 :: (ns.map Prod.fst).drop (j + 1) := by
  rw [List.drop_eq_getElem_cons (by simpa using h)]; simp
/-- A row of lists that are open, in memory: the innermost last. -/
def ints (L : List Int) : List Value := L.reverse.map (.int .i64)
theorem ints_len (L : List Int) : (ints L).length = L.length := by simp [ints]
theorem ints_cons (a : Int) (L : List Int) : ints (a :: L) = ints L ++ [.int .i64 a] := by simp [ints]
theorem ints_set (a b : Int) (L : List Int) : (ints (a :: L)).set L.length (.int .i64 b) = ints (b :: L) := by
  rw [ints_cons, ints_cons, List.set_append_right _ _ (by rw [ints_len]; exact Nat.le_refl _), ints_len]; simp
theorem ints_at (a : Int) (L : List Int) : (ints (a :: L))[L.length]? = some (.int .i64 a) := by
  rw [ints_cons, List.getElem?_append_right (by rw [ints_len]; exact Nat.le_refl _), ints_len]; simp
def lenV : Value → Nat | .slice _ n _ => n | _ => 0
theorem own_shape {w : World} {base : Nat} {e : TypeId} {size : Nat} {v : Value} {n : Nat} {xs : List Value} (h : w.ownsRow base e size v n xs) : ∃ a c, v = .slice a n c := by
  rcases h.2 with ⟨rfl, rfl⟩ | ⟨g, cap, _, rfl, _⟩
  · exact ⟨_, _, rfl⟩
  · exact ⟨_, _, rfl⟩
theorem own_cap {w : World} {base : Nat} {e : TypeId} {size : Nat} {g n cap : Nat} {xs : List Value} (h : w.ownsRow base e size (.slice (some ⟨g, 0, none⟩) n cap) n xs) : n ≤ cap ∧ cap ≤ maxLen := by
  rcases h.2 with ⟨h0, _⟩ | ⟨g', cap', cur, hv, _, _, hn, hc, _, _⟩
  · cases h0
  · cases hv; exact ⟨hn, hc⟩
theorem nodeOk_split {n : Nd} (h : nodeOk n = true) : 0 ≤ n.kids ∧ (n.kind = 1 ∨ n.kids = 0) ∧ wordOk n.kind n.t = true := by
  simp only [nodeOk, Bool.and_eq_true, Bool.or_eq_true, decide_eq_true_eq] at h
  exact ⟨h.1.1, h.1.2, h.2⟩
theorem nodeOk_word {n : Nd} (h : wordOk n.kind n.t = false) : nodeOk n = false := by simp [nodeOk, h]
theorem nodeOk_neg {n : Nd} (h : n.kids < 0) : nodeOk n = false := by
  have : decide (0 ≤ n.kids) = false := by rw [decide_eq_false_iff_not]; omega
  simp [nodeOk, this]
theorem nodeOk_leaf {n : Nd} (h : n.kind ≠ 1) (h2 : n.kids ≠ 0) : nodeOk n = false := by simp [nodeOk, h, h2]
set_option maxRecDepth 100000 in
set_option maxHeartbeats 8000000 in
theorem l3Form_row (b c : Nat) (ns : List (Nd × Int)) (w : World) (hn : ns.length ≤ 8000) (hc : ns.length ≤ c) (hm : c ≤ maxLen) (hb : b < w.heap.size) (hN : NodesAt w b ns) :
    Calls Tryd.prog 16 #[.slice (some ⟨b, 0, none⟩) ns.length c] w fun e w' => e = .returned (.bool (fitF (ns.map Prod.fst) 0 [])) ∧ Below w.heap.size w w' := by
  unfold maxLen at hm
  have z : decide ((8000 : Int) < (ns.length : Int)) = false := by rw [decide_eq_false_iff_not]; omega
  have HN := hidG hN
  obtain ⟨R, hR⟩ : ∃ R, fitF (ns.map Prod.fst) 0 [] = R := ⟨_, rfl⟩
  have HR := hidG hR
  rw [hR]
  clear hN hR
  obtain ⟨i0, hinf, hz0, hz1, hz2⟩ := info_parts Tryd.info_int
  go_enter Tryd.func16, Tryd.ntmps16
  go_wp2_with fail
  go_loopw [3, 4, 12] (fun v m i wr => ∃ (j zz : Nat) (L : List Int), j ≤ ns.length ∧ zz ≤ 20000 ∧ i = .int .i64 j ∧ m = .int .i64 zz ∧ L.length ≤ 200 ∧ posL L ∧ fitF ((ns.map Prod.fst).drop j) zz L = R ∧ wr.ownsRow w.heap.size 3 1 v L.length (ints L) ∧ Below w.heap.size w wr) (fun _ _ i _ => ns.length - (intOf i).toNat)
  case atStart => exact ⟨0, 0, [], Nat.zero_le _, Nat.zero_le _, rfl, rfl, Nat.zero_le _, ⟨fun x hx => (by simp at hx), fun a r e => (by simp at e)⟩, HR.out, World.ownsRow_nil _ _ _ _, Below.refl _ _⟩
  case round =>
    obtain ⟨j, zz, L, hj, hzz, rfl, rfl, hLl, hpos, hf, hown, hB⟩ := hrel
    have HB := hidG hB
    have HPL := hidG hpos
    clear hpos
    by_cases hlt : j < ns.length
    · obtain ⟨⟨k0, k1, k2, k3⟩, htx, hkd⟩ := HN.out j hlt
      rw [← hB.cell (p := ⟨b, j * 4, none⟩) hb] at k0
      rw [← hB.cell (p := ⟨b, j * 4 + 1, none⟩) hb] at k1
      rw [← hB.cell (p := ⟨b, j * 4 + 2, none⟩) hb] at k2
      rw [← hB.cell (p := ⟨b, j * 4 + 3, none⟩) hb] at k3
      rw [drop_nds hlt] at hf
      obtain ⟨q, hq⟩ : ∃ q, ns[j].2 = q := ⟨_, rfl⟩
      obtain ⟨nd, hnd⟩ : ∃ nd, ns[j].1 = nd := ⟨_, rfl⟩
      rw [hnd] at k0 k1 k2 hf htx hkd
      rw [hq] at k3
      rw [fitF_cons] at hf
      have HF := hidG hf
      clear hq hnd hf hB
      by_cases h1 : 20000 < zz + nd.text.size
      · have F : Hid (R = false) := by unfold Hid; rw [← HF.out, if_pos (.inl h1)]
        have y1 : decide ((20000 : Int) < (zz : Int) + (nd.text.size : Int)) = true := by rw [decide_eq_true_iff]; omega
        clear h1
        go_wp2_with fail
        go_ret
        exact ⟨ret_bool F.out.symm, HB.out.alloc HB.out.size _⟩
      have y1 : decide ((20000 : Int) < (zz : Int) + (nd.text.size : Int)) = false := by rw [decide_eq_false_iff_not]; omega
      by_cases h2 : wordOk nd.kind nd.t = true
      · have h2' := h2
        by_cases h3 : nd.kids < 0
        · have F : Hid (R = false) := by unfold Hid; rw [← HF.out, if_pos (.inr (.inl (nodeOk_neg h3)))]
          have y3 : decide (nd.kids < 0) = true := by rw [decide_eq_true_iff]; exact h3
          go_wp2_with (go_at_call 35; refine (l3Word_any nd q _ (by omega)).mono ?_; rintro e w1 ⟨rfl, hb1⟩; have hx := (bx_new wr [.int .i64 nd.kind, .string nd.text, .int .i64 nd.kids, .int .i64 q] 31).below (by simp) hb1; have HX := hidG hx; have hown1 := own_below (hown.alloc (.cells #[.int .i64 nd.kind, .string nd.text, .int .i64 nd.kids, .int .i64 q] 31)) hb1; have HO1 := hidG hown1; have HB1 : Hid (Below w.heap.size w w1) := ((HB.out.alloc HB.out.size _).trans (hb1.mono (by have := HB.out.size; simp; omega))); have HS1 : Hid (wr.heap.size < w1.heap.size) := (by have := hb1.size; simp at this; exact this); obtain ⟨c0, c1, c2, c3⟩ := hx.c4; clear hb1 hx hown1)
          go_ret
          exact ⟨ret_bool F.out.symm, HB1.out⟩
        have y3 : decide (nd.kids < 0) = false := by rw [decide_eq_false_iff_not]; exact h3
        by_cases h4 : nd.kind = 1
        · have y4 : (nd.kind == 1) = true := by rw [beq_iff_eq]; exact h4
          have H4 := hidG h4
          clear h4
          have h0k : 0 ≤ nd.kids := by omega
          have hno : nodeOk nd = true := by unfold nodeOk; rw [decide_eq_true h0k, decide_eq_true H4.out, h2']; rfl
          rcases L with _ | ⟨a, r⟩
          · obtain ⟨p0, cap0, rfl⟩ := own_shape hown
            have HNO : Hid (nodeOk nd = true) := hno
            obtain ⟨S, hS⟩ : ∃ S, stepL nd ([]) = S := ⟨_, rfl⟩
            have HSP : Hid (posL S) := by unfold Hid; rw [← hS]; exact stepL_pos HPL.out h0k hkd
            have HS0 := hidG hS
            clear hS
            go_wp2_with (first | (go_at_call 35; refine (l3Word_any nd q _ (by omega)).mono ?_; rintro e w1 ⟨rfl, hb1⟩; have hx := (bx_new wr [.int .i64 nd.kind, .string nd.text, .int .i64 nd.kids, .int .i64 q] 31).below (by simp) hb1; have HX := hidG hx; have hown1 := own_below (hown.alloc (.cells #[.int .i64 nd.kind, .string nd.text, .int .i64 nd.kids, .int .i64 q] 31)) hb1; have HO1 := hidG hown1; have HB1 : Hid (Below w.heap.size w w1) := ((HB.out.alloc HB.out.size _).trans (hb1.mono (by have := HB.out.size; simp; omega))); have HS1 : Hid (wr.heap.size < w1.heap.size) := (by have := hb1.size; simp at this; exact this); obtain ⟨c0, c1, c2, c3⟩ := hx.c4; clear hb1 hx hown1) | (at_builtin; refine wpList_append_own_at _ rfl _ _ 38 rfl w.heap.size 3 i0 (.int .i64 0) 1 8 Tryd.underlying38 hinf hz0 hz1 hz2 rfl (by decide) _ 0 _ rfl (HO1.out.alloc _) ⟨w1.heap.size, 0, none⟩ 1 1 [.int .i64 nd.kids] rfl rfl ?c1 ?c2 ?c3 ?c4 ?c5 ?_))
            case c1 =>
              intro i u hi
              match i, hi with
              | 0, hi =>
                simp at hi; subst hi
                simp [Addr.add]
            case c2 => intro u hu; simp at hu; subst hu; rfl
            case c3 => unfold maxLen; omega
            case c4 => omega
            case c5 => have := HB1.out.size; simp; omega
            intro v3 W3 hown3 hgr3 _ _
            have hB3 : Below w.heap.size w W3 := (HB1.out.alloc HB1.out.size _).grown hgr3 (by have := HB1.out.size; simp; omega) (fun k e => (HO1.out.lt k e).1)
            have HB3 := hidG hB3
            have HO3 : Hid (W3.ownsRow w.heap.size 3 1 v3 [nd.kids].length (ints [nd.kids])) := hown3
            obtain ⟨g3, cap3, rfl⟩ := ownsRow_succ hown3
            clear hown3 hgr3 hB3 c0 c1 c2 c3
            have HFS : Hid (fitF ((ns.map Prod.fst).drop (j + 1)) (zz + nd.text.size) S = R) := by
              have := HF.out
              rw [if_neg (by rintro (h | h | h); exact h1 h; rw [HNO.out] at h; cases h; simp at h), HS0.out] at this; exact this
            have HM : Hid (popZ [nd.kids] = S) := by unfold Hid; rw [← HS0.out]; simp [stepL, pushL, H4.out, decL]
            have HL3 : Hid ([nd.kids].length ≤ 201) := by show 1 ≤ 201; omega
            have HSL : Hid (S.length ≤ 200) := by
              have := popZ_len [nd.kids]
              rw [HM.out] at this
              show S.length ≤ 200
              simp at this
              omega
            go_wp2_with fail
            go_loop [3] (fun v => ∃ M : List Int, M.length ≤ 201 ∧ popZ M = S ∧ W3.ownsRow w.heap.size 3 1 v M.length (ints M)) (fun v => lenV v)
            case atStart => exact ⟨_, HL3.out, HM.out, HO3.out⟩
            case round =>
              obtain ⟨M, hMl, hM, hownM⟩ := hrel
              rcases M with _ | ⟨m, M⟩
              · obtain ⟨p, cp, rfl⟩ := own_shape hownM
                have HS : Hid (S = []) := hM.symm
                have HOM := hidG hownM
                clear hM hownM
                go_wp2_with fail
                go_roundw
                case rel => exact ⟨j + 1, zz + nd.text.size, S, by omega, by omega, by go_num, by go_num, HSL.out, HSP.out, HFS.out, by rw [HS.out]; exact HOM.out, HB3.out⟩
                case measure => simp [intOf]; omega
              · obtain ⟨gm, cm, rfl⟩ := ownsRow_succ hownM
                have hcm := hownM.cellAt M.length (by simp)
                rw [ints_at] at hcm
                have hMl' : M.length + 1 ≤ 201 := hMl
                have hcap := own_cap hownM
                by_cases hm0 : m = 0
                · subst hm0
                  have hpop := ownsRow_pop (size := 1) (n := M.length) (xs := ints M) (last := [.int .i64 0]) (by rw [ints_len]; omega) (by rw [← ints_cons]; exact hownM)
                  have HPP := hidG hpop
                  have HM2 : Hid (popZ M = S) := by have := hM; simp only [popZ, if_true] at this; exact this
                  clear hM hownM hpop
                  go_wp2_with fail
                  go_round
                  case rel => exact ⟨M, by omega, HM2.out, HPP.out⟩
                  case measure => simp [lenV]
                · have hm1 : (m == 0) = false := by rw [beq_eq_false_iff_ne]; exact hm0
                  have HS : Hid (S = m :: M) := by have := hM; simp only [popZ, if_neg hm0] at this; exact this.symm
                  have HOM := hidG hownM
                  clear hM hownM hm0
                  go_wp2_with fail
                  go_roundw
                  case rel => exact ⟨j + 1, zz + nd.text.size, S, by omega, by omega, by go_num, by go_num, HSL.out, HSP.out, HFS.out, by rw [HS.out]; exact HOM.out, HB3.out⟩
                  case measure => simp [intOf]; omega
          · have ha := HPL.out.1 a (by simp)
            have ha1 := HPL.out.2 a r rfl
            obtain ⟨g, cap, rfl⟩ := ownsRow_succ hown
            have hLr : r.length + 1 ≤ 200 := hLl
            have hg := hown.lt g rfl
            have HNO : Hid (nodeOk nd = true) := hno
            obtain ⟨S, hS⟩ : ∃ S, stepL nd (a :: r) = S := ⟨_, rfl⟩
            have HSP : Hid (posL S) := by unfold Hid; rw [← hS]; exact stepL_pos HPL.out h0k hkd
            have HS0 := hidG hS
            clear hS
            go_wp2_with (first | (go_at_call 35; refine (l3Word_any nd q _ (by omega)).mono ?_; rintro e w1 ⟨rfl, hb1⟩; have hx := (bx_new wr [.int .i64 nd.kind, .string nd.text, .int .i64 nd.kids, .int .i64 q] 31).below (by simp) hb1; have HX := hidG hx; have hown1 := own_below (hown.alloc (.cells #[.int .i64 nd.kind, .string nd.text, .int .i64 nd.kids, .int .i64 q] 31)) hb1; have HO1 := hidG hown1; have HB1 : Hid (Below w.heap.size w w1) := ((HB.out.alloc HB.out.size _).trans (hb1.mono (by have := HB.out.size; simp; omega))); have HS1 : Hid (wr.heap.size < w1.heap.size) := (by have := hb1.size; simp at this; exact this); obtain ⟨c0, c1, c2, c3⟩ := hx.c4; clear hb1 hx hown1; have hc0 := HO1.out.cellAt r.length (by simp); rw [ints_at] at hc0; have hf0 := HO1.out.frozenAt r.length; have hst := HO1.out.stored r.length (.int .i64 (a - 1)); rw [ints_set] at hst; have hown2 := hst.1; have HG2 := hidG hst.2; have hx2 := HX.out.other ⟨g, r.length, none⟩ (by show g ≠ wr.heap.size; omega) (.int .i64 (a - 1)); have HX2 := hidG hx2; obtain ⟨d0, d1, d2, d3⟩ := hx2.c4; clear hst hx2) | (at_builtin; refine wpList_append_own_at _ rfl _ _ 38 rfl w.heap.size 3 i0 (.int .i64 0) 1 8 Tryd.underlying38 hinf hz0 hz1 hz2 rfl (by decide) _ (r.length + 1) _ rfl (hown2.alloc _) ⟨w1.heap.size, 0, none⟩ 1 1 [.int .i64 nd.kids] rfl rfl ?c1 ?c2 ?c3 ?c4 ?c5 ?_))
            case c1 =>
              intro i u hi
              match i, hi with
              | 0, hi =>
                simp at hi; subst hi
                have := (bx_new (w1.setCell ⟨g, r.length, none⟩ (.int .i64 (a - 1))) [.int .i64 nd.kids] 3).cell 0
                simpa [Addr.add] using this
            case c2 => intro u hu; simp at hu; subst hu; rfl
            case c3 => unfold maxLen; omega
            case c4 => omega
            case c5 => have := HB1.out.size; simp; omega
            intro v3 W3 hown3 hgr3 _ _
            have hB3 : Below w.heap.size w W3 := ((HB1.out.setCell (p := ⟨g, r.length, none⟩) hg.1 _).alloc (by have := HB1.out.size; simp; omega) _).grown hgr3 (by have := HB1.out.size; simp; omega) (fun k e => by cases e; exact hg.1)
            have HB3 := hidG hB3
            rw [← ints_cons] at hown3
            have HO3 := hidG hown3
            obtain ⟨g3, cap3, rfl⟩ := ownsRow_succ hown3
            clear hown2 hown3 hgr3 hB3 c0 c1 c2 c3 d0 d1 d2 d3 hc0 hf0
            by_cases h9 : r.length + 1 = 200
            · have F : Hid (R = false) := by unfold Hid; rw [← HF.out, if_pos (.inr (.inr ⟨H4.out, h9⟩))]
              have y8 : decide ((200 : Int) < (r.length : Int) + 1 + 1) = true := by rw [decide_eq_true_iff]; omega
              clear h9
              go_wp2_with fail
              go_ret
              exact ⟨ret_bool F.out.symm, HB3.out⟩
            have y8 : decide ((200 : Int) < (r.length : Int) + 1 + 1) = false := by rw [decide_eq_false_iff_not]; omega
            have HFS : Hid (fitF ((ns.map Prod.fst).drop (j + 1)) (zz + nd.text.size) S = R) := by
              have := HF.out
              rw [if_neg (by rintro (h | h | h); exact h1 h; rw [HNO.out] at h; cases h; exact h9 h.2), HS0.out] at this; exact this
            have HM : Hid (popZ (nd.kids :: (a - 1) :: r) = S) := by unfold Hid; rw [← HS0.out]; simp [stepL, pushL, H4.out, decL]
            have HL3 : Hid ((nd.kids :: (a - 1) :: r).length ≤ 201) := by show r.length + 1 + 1 ≤ 201; omega
            have HSL : Hid (S.length ≤ 200) := by
              have := popZ_len (nd.kids :: (a - 1) :: r)
              rw [HM.out] at this
              have e : (nd.kids :: (a - 1) :: r).length = r.length + 1 + 1 := rfl
              show S.length ≤ 200
              omega
            clear h9
            go_wp2_with fail
            go_loop [3] (fun v => ∃ M : List Int, M.length ≤ 201 ∧ popZ M = S ∧ W3.ownsRow w.heap.size 3 1 v M.length (ints M)) (fun v => lenV v)
            case atStart => exact ⟨_, HL3.out, HM.out, HO3.out⟩
            case round =>
              obtain ⟨M, hMl, hM, hownM⟩ := hrel
              rcases M with _ | ⟨m, M⟩
              · obtain ⟨p, cp, rfl⟩ := own_shape hownM
                have HS : Hid (S = []) := hM.symm
                have HOM := hidG hownM
                clear hM hownM
                go_wp2_with fail
                go_roundw
                case rel => exact ⟨j + 1, zz + nd.text.size, S, by omega, by omega, by go_num, by go_num, HSL.out, HSP.out, HFS.out, by rw [HS.out]; exact HOM.out, HB3.out⟩
                case measure => simp [intOf]; omega
              · obtain ⟨gm, cm, rfl⟩ := ownsRow_succ hownM
                have hcm := hownM.cellAt M.length (by simp)
                rw [ints_at] at hcm
                have hMl' : M.length + 1 ≤ 201 := hMl
                have hcap := own_cap hownM
                by_cases hm0 : m = 0
                · subst hm0
                  have hpop := ownsRow_pop (size := 1) (n := M.length) (xs := ints M) (last := [.int .i64 0]) (by rw [ints_len]; omega) (by rw [← ints_cons]; exact hownM)
                  have HPP := hidG hpop
                  have HM2 : Hid (popZ M = S) := by have := hM; simp only [popZ, if_true] at this; exact this
                  clear hM hownM hpop
                  go_wp2_with fail
                  go_round
                  case rel => exact ⟨M, by omega, HM2.out, HPP.out⟩
                  case measure => simp [lenV]
                · have hm1 : (m == 0) = false := by rw [beq_eq_false_iff_ne]; exact hm0
                  have HS : Hid (S = m :: M) := by have := hM; simp only [popZ, if_neg hm0] at this; exact this.symm
                  have HOM := hidG hownM
                  clear hM hownM hm0
                  go_wp2_with fail
                  go_roundw
                  case rel => exact ⟨j + 1, zz + nd.text.size, S, by omega, by omega, by go_num, by go_num, HSL.out, HSP.out, HFS.out, by rw [HS.out]; exact HOM.out, HB3.out⟩
                  case measure => simp [intOf]; omega
        · have y4 : (nd.kind == 1) = false := by rw [beq_eq_false_iff_ne]; exact h4
          by_cases h5 : nd.kids = 0
          · have h0k : 0 ≤ nd.kids := by omega
            have hno : nodeOk nd = true := by unfold nodeOk; rw [decide_eq_true h0k, decide_eq_true h5, h2']; simp
            have y5 : (nd.kids == 0) = true := by rw [beq_iff_eq]; exact h5
            have y6 : (nd.kids != 0) = false := by rw [bne_eq_false_iff_eq]; exact h5
            have y7 : (nd.kind != 1) = true := by rw [bne_iff_ne]; exact h4
            have H4 : Hid (¬ nd.kind = 1) := h4
            have H5 := hidG h5
            clear h4 h5
            rcases L with _ | ⟨a, r⟩
            · obtain ⟨p0, cap0, rfl⟩ := own_shape hown
              have HNO : Hid (nodeOk nd = true) := hno
              obtain ⟨S, hS⟩ : ∃ S, stepL nd ([]) = S := ⟨_, rfl⟩
              have HSP : Hid (posL S) := by unfold Hid; rw [← hS]; exact stepL_pos HPL.out h0k hkd
              have HS0 := hidG hS
              clear hS
              go_wp2_with (go_at_call 35; refine (l3Word_any nd q _ (by omega)).mono ?_; rintro e w1 ⟨rfl, hb1⟩; have hx := (bx_new wr [.int .i64 nd.kind, .string nd.text, .int .i64 nd.kids, .int .i64 q] 31).below (by simp) hb1; have HX := hidG hx; have hown1 := own_below (hown.alloc (.cells #[.int .i64 nd.kind, .string nd.text, .int .i64 nd.kids, .int .i64 q] 31)) hb1; have HO1 := hidG hown1; have HB1 : Hid (Below w.heap.size w w1) := ((HB.out.alloc HB.out.size _).trans (hb1.mono (by have := HB.out.size; simp; omega))); have HS1 : Hid (wr.heap.size < w1.heap.size) := (by have := hb1.size; simp at this; exact this); obtain ⟨c0, c1, c2, c3⟩ := hx.c4; clear hb1 hx hown1)
              clear c0 c1 c2 c3
              obtain ⟨W3, hW3⟩ : ∃ W3, w1 = W3 := ⟨_, rfl⟩
              rw [hW3]
              have HB3 : Hid (Below w.heap.size w W3) := by rw [← hW3]; exact HB1.out
              have HO3 : Hid (W3.ownsRow w.heap.size 3 1 (.slice p0 0 cap0) ([] : List Int).length (ints [])) := by rw [← hW3]; exact HO1.out
              clear hW3
              have HFS : Hid (fitF ((ns.map Prod.fst).drop (j + 1)) (zz + nd.text.size) S = R) := by
                have := HF.out
                rw [if_neg (by rintro (h | h | h); exact h1 h; rw [HNO.out] at h; cases h; exact H4.out h.1), HS0.out] at this; exact this
              have HM : Hid (popZ [] = S) := by unfold Hid; rw [← HS0.out]; simp [stepL, pushL, H4.out, decL]
              have HL3 : Hid (([] : List Int).length ≤ 201) := Nat.zero_le _
              have HSL : Hid (S.length ≤ 200) := by rw [← HM.out]; exact Nat.zero_le _
              go_loop [3] (fun v => ∃ M : List Int, M.length ≤ 201 ∧ popZ M = S ∧ W3.ownsRow w.heap.size 3 1 v M.length (ints M)) (fun v => lenV v)
              case atStart => exact ⟨_, HL3.out, HM.out, HO3.out⟩
              case round =>
                obtain ⟨M, hMl, hM, hownM⟩ := hrel
                rcases M with _ | ⟨m, M⟩
                · obtain ⟨p, cp, rfl⟩ := own_shape hownM
                  have HS : Hid (S = []) := hM.symm
                  have HOM := hidG hownM
                  clear hM hownM
                  go_wp2_with fail
                  go_roundw
                  case rel => exact ⟨j + 1, zz + nd.text.size, S, by omega, by omega, by go_num, by go_num, HSL.out, HSP.out, HFS.out, by rw [HS.out]; exact HOM.out, HB3.out⟩
                  case measure => simp [intOf]; omega
                · obtain ⟨gm, cm, rfl⟩ := ownsRow_succ hownM
                  have hcm := hownM.cellAt M.length (by simp)
                  rw [ints_at] at hcm
                  have hMl' : M.length + 1 ≤ 201 := hMl
                  have hcap := own_cap hownM
                  by_cases hm0 : m = 0
                  · subst hm0
                    have hpop := ownsRow_pop (size := 1) (n := M.length) (xs := ints M) (last := [.int .i64 0]) (by rw [ints_len]; omega) (by rw [← ints_cons]; exact hownM)
                    have HPP := hidG hpop
                    have HM2 : Hid (popZ M = S) := by have := hM; simp only [popZ, if_true] at this; exact this
                    clear hM hownM hpop
                    go_wp2_with fail
                    go_round
                    case rel => exact ⟨M, by omega, HM2.out, HPP.out⟩
                    case measure => simp [lenV]
                  · have hm1 : (m == 0) = false := by rw [beq_eq_false_iff_ne]; exact hm0
                    have HS : Hid (S = m :: M) := by have := hM; simp only [popZ, if_neg hm0] at this; exact this.symm
                    have HOM := hidG hownM
                    clear hM hownM hm0
                    go_wp2_with fail
                    go_roundw
                    case rel => exact ⟨j + 1, zz + nd.text.size, S, by omega, by omega, by go_num, by go_num, HSL.out, HSP.out, HFS.out, by rw [HS.out]; exact HOM.out, HB3.out⟩
                    case measure => simp [intOf]; omega
            · have ha := HPL.out.1 a (by simp)
              have ha1 := HPL.out.2 a r rfl
              obtain ⟨g, cap, rfl⟩ := ownsRow_succ hown
              have hLr : r.length + 1 ≤ 200 := hLl
              have hg := hown.lt g rfl
              have HNO : Hid (nodeOk nd = true) := hno
              obtain ⟨S, hS⟩ : ∃ S, stepL nd (a :: r) = S := ⟨_, rfl⟩
              have HSP : Hid (posL S) := by unfold Hid; rw [← hS]; exact stepL_pos HPL.out h0k hkd
              have HS0 := hidG hS
              clear hS
              go_wp2_with (go_at_call 35; refine (l3Word_any nd q _ (by omega)).mono ?_; rintro e w1 ⟨rfl, hb1⟩; have hx := (bx_new wr [.int .i64 nd.kind, .string nd.text, .int .i64 nd.kids, .int .i64 q] 31).below (by simp) hb1; have HX := hidG hx; have hown1 := own_below (hown.alloc (.cells #[.int .i64 nd.kind, .string nd.text, .int .i64 nd.kids, .int .i64 q] 31)) hb1; have HO1 := hidG hown1; have HB1 : Hid (Below w.heap.size w w1) := ((HB.out.alloc HB.out.size _).trans (hb1.mono (by have := HB.out.size; simp; omega))); have HS1 : Hid (wr.heap.size < w1.heap.size) := (by have := hb1.size; simp at this; exact this); obtain ⟨c0, c1, c2, c3⟩ := hx.c4; clear hb1 hx hown1; have hc0 := HO1.out.cellAt r.length (by simp); rw [ints_at] at hc0; have hf0 := HO1.out.frozenAt r.length; have hst := HO1.out.stored r.length (.int .i64 (a - 1)); rw [ints_set] at hst; have hown2 := hst.1; have HG2 := hidG hst.2; have hx2 := HX.out.other ⟨g, r.length, none⟩ (by show g ≠ wr.heap.size; omega) (.int .i64 (a - 1)); have HX2 := hidG hx2; obtain ⟨d0, d1, d2, d3⟩ := hx2.c4; clear hst hx2)
              obtain ⟨W3, hW3⟩ : ∃ W3, w1.setCell ⟨g, r.length, none⟩ (.int .i64 (a - 1)) = W3 := ⟨_, rfl⟩
              rw [hW3]
              have HB3 : Hid (Below w.heap.size w W3) := by rw [← hW3]; exact HB1.out.setCell (p := ⟨g, r.length, none⟩) hg.1 _
              have HO3 : Hid (W3.ownsRow w.heap.size 3 1 (.slice (some ⟨g, 0, none⟩) (r.length + 1) cap) ((a - 1) :: r).length (ints ((a - 1) :: r))) := by rw [← hW3]; exact hown2
              clear hW3 hown2 c0 c1 c2 c3 d0 d1 d2 d3 hc0 hf0
              have HFS : Hid (fitF ((ns.map Prod.fst).drop (j + 1)) (zz + nd.text.size) S = R) := by
                have := HF.out
                rw [if_neg (by rintro (h | h | h); exact h1 h; rw [HNO.out] at h; cases h; exact H4.out h.1), HS0.out] at this; exact this
              have HM : Hid (popZ ((a - 1) :: r) = S) := by unfold Hid; rw [← HS0.out]; simp [stepL, pushL, H4.out, decL]
              have HL3 : Hid (((a - 1) :: r).length ≤ 201) := by show r.length + 1 ≤ 201; omega
              have HSL : Hid (S.length ≤ 200) := by
                have := popZ_len ((a - 1) :: r)
                rw [HM.out] at this
                have e : ((a - 1) :: r).length = r.length + 1 := rfl
                show S.length ≤ 200
                omega
              go_loop [3] (fun v => ∃ M : List Int, M.length ≤ 201 ∧ popZ M = S ∧ W3.ownsRow w.heap.size 3 1 v M.length (ints M)) (fun v => lenV v)
              case atStart => exact ⟨_, HL3.out, HM.out, HO3.out⟩
              case round =>
                obtain ⟨M, hMl, hM, hownM⟩ := hrel
                rcases M with _ | ⟨m, M⟩
                · obtain ⟨p, cp, rfl⟩ := own_shape hownM
                  have HS : Hid (S = []) := hM.symm
                  have HOM := hidG hownM
                  clear hM hownM
                  go_wp2_with fail
                  go_roundw
                  case rel => exact ⟨j + 1, zz + nd.text.size, S, by omega, by omega, by go_num, by go_num, HSL.out, HSP.out, HFS.out, by rw [HS.out]; exact HOM.out, HB3.out⟩
                  case measure => simp [intOf]; omega
                · obtain ⟨gm, cm, rfl⟩ := ownsRow_succ hownM
                  have hcm := hownM.cellAt M.length (by simp)
                  rw [ints_at] at hcm
                  have hMl' : M.length + 1 ≤ 201 := hMl
                  have hcap := own_cap hownM
                  by_cases hm0 : m = 0
                  · subst hm0
                    have hpop := ownsRow_pop (size := 1) (n := M.length) (xs := ints M) (last := [.int .i64 0]) (by rw [ints_len]; omega) (by rw [← ints_cons]; exact hownM)
                    have HPP := hidG hpop
                    have HM2 : Hid (popZ M = S) := by have := hM; simp only [popZ, if_true] at this; exact this
                    clear hM hownM hpop
                    go_wp2_with fail
                    go_round
                    case rel => exact ⟨M, by omega, HM2.out, HPP.out⟩
                    case measure => simp [lenV]
                  · have hm1 : (m == 0) = false := by rw [beq_eq_false_iff_ne]; exact hm0
                    have HS : Hid (S = m :: M) := by have := hM; simp only [popZ, if_neg hm0] at this; exact this.symm
                    have HOM := hidG hownM
                    clear hM hownM hm0
                    go_wp2_with fail
                    go_roundw
                    case rel => exact ⟨j + 1, zz + nd.text.size, S, by omega, by omega, by go_num, by go_num, HSL.out, HSP.out, HFS.out, by rw [HS.out]; exact HOM.out, HB3.out⟩
                    case measure => simp [intOf]; omega
          · have F : Hid (R = false) := by unfold Hid; rw [← HF.out, if_pos (.inr (.inl (nodeOk_leaf h4 h5)))]
            have y5 : (nd.kids == 0) = false := by rw [beq_eq_false_iff_ne]; exact h5
            have y6 : (nd.kids != 0) = true := by rw [bne_iff_ne]; exact h5
            have y7 : (nd.kind != 1) = true := by rw [bne_iff_ne]; exact h4
            clear h4 h5
            go_wp2_with (go_at_call 35; refine (l3Word_any nd q _ (by omega)).mono ?_; rintro e w1 ⟨rfl, hb1⟩; have hx := (bx_new wr [.int .i64 nd.kind, .string nd.text, .int .i64 nd.kids, .int .i64 q] 31).below (by simp) hb1; have HX := hidG hx; have hown1 := own_below (hown.alloc (.cells #[.int .i64 nd.kind, .string nd.text, .int .i64 nd.kids, .int .i64 q] 31)) hb1; have HO1 := hidG hown1; have HB1 : Hid (Below w.heap.size w w1) := ((HB.out.alloc HB.out.size _).trans (hb1.mono (by have := HB.out.size; simp; omega))); have HS1 : Hid (wr.heap.size < w1.heap.size) := (by have := hb1.size; simp at this; exact this); obtain ⟨c0, c1, c2, c3⟩ := hx.c4; clear hb1 hx hown1)
            all_goals go_ret
            all_goals exact ⟨ret_bool F.out.symm, HB1.out⟩
      · have h2' : wordOk nd.kind nd.t = false := by simpa using h2
        have F : Hid (R = false) := by unfold Hid; rw [← HF.out, if_pos (.inr (.inl (nodeOk_word h2')))]
        clear h2
        go_wp2_with (go_at_call 35; refine (l3Word_any nd q _ (by omega)).mono ?_; rintro e w1 ⟨rfl, hb1⟩; have hx := (bx_new wr [.int .i64 nd.kind, .string nd.text, .int .i64 nd.kids, .int .i64 q] 31).below (by simp) hb1; have HX := hidG hx; have hown1 := own_below (hown.alloc (.cells #[.int .i64 nd.kind, .string nd.text, .int .i64 nd.kids, .int .i64 q] 31)) hb1; have HO1 := hidG hown1; have HB1 : Hid (Below w.heap.size w w1) := ((HB.out.alloc HB.out.size _).trans (hb1.mono (by have := HB.out.size; simp; omega))); have HS1 : Hid (wr.heap.size < w1.heap.size) := (by have := hb1.size; simp at this; exact this); obtain ⟨c0, c1, c2, c3⟩ := hx.c4; clear hb1 hx hown1)
        go_ret
        exact ⟨ret_bool F.out.symm, HB1.out⟩
    · have F : Hid (R = L.isEmpty) := by
        unfold Hid
        rw [← hf, List.drop_of_length_le (by simp; omega)]; rfl
      obtain ⟨p0, cap0, rfl⟩ := own_shape hown
      clear hf hown hB
      rcases L with _ | ⟨a, r⟩
      · go_wp2_with fail
        go_ret
        exact ⟨ret_bool F.out.symm, HB.out⟩
      · go_wp2_with fail
        go_ret
        refine ⟨ret_bool ?_, HB.out⟩
        rw [F.out]
        simp <;> omega
end Go.Proofs.YtdngpnlbhadbpaaDoor
