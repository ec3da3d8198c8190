import Derived.Test.YtdphpfffofeklaaDoorPtS
import Derived.Deep.CutBlock
import Derived.Deep.CutRange
import Derived.Deep.DeepCutAuto
namespace Go.Proofs.YtdphpfffofeklaaDoor.P
open Go.ChangeShapes Go.WideShapes Go.ChangeAt Go.RowKit
open T (Nd)
open L (strOf strOf_toList strOf_size Tn hidG below_alloc Bx bx_new StrsAt TreeAt strsC strs_at row_below own_lower own_other' own_base up_alloc)
def Done (kb : Nat) (f : Lm) (ns0 : List Nd) (sz0 : Nat) (w' : World) : Prop :=
  ∃ ns bad sz, Ws kb ns bad sz w' ∧ sz ≤ 700000000 ∧ ((bad = false ∧ sz ≤ 20000 ∧ lemOk f = true ∧ ns = ns0 ++ (lemP f).1 ∧ sz = sz0 + szN (lemP f).1) ∨ ((bad = true ∨ 20000 < sz) ∧ (lemOk f = false ∨ 20000 < sz0 + szN (lemP f).1)))
theorem done_end {kb sz0 bnd : Nat} {f : Lm} {ns0 : List Nd} {W : World} (h : Sx kb ns0 sz0 (lemOk f) (lemP f).1 bnd W) (hb : bnd ≤ 700000000) : Done kb f ns0 sz0 W := by
  obtain ⟨ns, sz, h1, h2, h3, h4⟩ := h.ex
  refine ⟨ns, _, sz, h1, by omega, ?_⟩
  cases hk : lemOk f with
  | false => exact .inr ⟨.inl rfl, .inl rfl⟩
  | true =>
    obtain ⟨e1, e2⟩ := h2 hk
    by_cases hs : sz ≤ 20000
    · exact .inl ⟨rfl, hs, rfl, e1, e2⟩
    · exact .inr ⟨.inr (by omega), .inr (by omega)⟩
theorem done_early {kb sz0 bnd : Nat} {f : Lm} {ns0 X : List Nd} {ok : Bool} {W : World} (h : Sx kb ns0 sz0 ok X bnd W) (hb : bnd ≤ 700000000) (hX : ok = true → szN X ≤ szN (lemP f).1) (hk : ok = false → lemOk f = false) {sz : Nat} (hc : W.cell? ⟨kb, 2, none⟩ = some (.int .i64 ((sz : Nat) : Int))) (hs : 20000 < sz) : Done kb f ns0 sz0 W := by
  obtain ⟨ns, sz', h1, h2, h3, h4⟩ := h.ex
  obtain ⟨v', hx, ho⟩ := h1.ex
  obtain ⟨-, -, c2⟩ := hx.c3
  rw [hc] at c2
  have e : sz = sz' := by
    have := Option.some.inj c2
    injection this with _ e
    omega
  subst e
  refine ⟨ns, _, sz, h1, by omega, .inr ⟨.inr hs, ?_⟩⟩
  cases ok with
  | false => exact .inl (hk rfl)
  | true => exact .inr (by have := (h2 rfl).2; have := hX rfl; omega)
def wt8 (g : Tn) : Nat := 8 * wtT g + 64
theorem sumT_le {α : Type} (g : α → Nat) (l : List α) (i : Nat) : sumT g l i ≤ (l.map g).sum := by
  unfold sumT
  conv => rhs; rw [← List.take_append_drop i l]
  rw [List.map_append, List.sum_append]
  omega
theorem mu_sum (M : List (List UInt8)) (j : Nat) : sumT (fun m : List UInt8 => m.length + 5) M j ≤ 5 * wtS M := by
  have h1 := sumT_le (fun m : List UInt8 => m.length + 5) M j
  have h2 := sum_lin (fun m : List UInt8 => m.length) 1 5 M
  have e : M.map (fun m => m.length + 5) = M.map (fun m => 1 * m.length + 5) := by refine List.map_congr_left fun x _ => ?_; omega
  have e2 : M.map (fun m => m.length) = M.map List.length := rfl
  rw [e, h2, e2] at h1
  unfold wtS
  omega
set_option maxRecDepth 100000 in
set_option maxHeartbeats 16000000 in
theorem lemma_any (kb : Nat) (f : Lm) (va vb vc : Value) (ns0 : List Nd) (sz0 : Nat) (w0 w : World) (hw0 : w0.heap.size ≤ kb) (hbl : Below w0.heap.size w0 w) (h1' : IntsAt w0 va f.lits) (h2' : IntsAt w0 vb f.chain) (h3' : TreeAt w0 vc f.tree) (hf : LmB f) (hw : Ws kb ns0 false sz0 w) (hn0 : ns0.length ≤ 20000) (hs0 : sz0 ≤ 20000) :
    Calls Tryd.prog 10 #[.pointer (some ⟨kb, 0, none⟩), .agg #[.int .i64 f.kind, va, vb, vc]] w fun e w' => e = .returned (.tuple #[]) ∧ Done kb f ns0 sz0 w' ∧ Fr kb w w' := by
  have HBL := hidG hbl
  have H1 : Hid (∀ W, Below kb w W → IntsAt W va f.lits) := fun W h => h1'.below (HBL.out.trans (h.mono hw0))
  have H2 : Hid (∀ W, Below kb w W → IntsAt W vb f.chain) := fun W h => h2'.below (HBL.out.trans (h.mono hw0))
  have HF := hidG hf
  obtain ⟨p1, c1, rfl, l1, m1, -⟩ := h1'
  obtain ⟨p2, c2, rfl, l2, m2, -⟩ := h2'
  obtain ⟨p3, c3, rfl, l3, m3, ha3⟩ := h3'
  have HA3 := hidG ha3
  have HTN : Hid (∀ t ∈ f.tree, TnB t) := fun t ht => ⟨hf.2.2.2.1 t ht, by
    have h1 := hf.2.2.2.2
    have h2 : wtT t ≤ (f.tree.map wtT).sum := le_sum (List.mem_map.2 ⟨t, ht, rfl⟩)
    unfold wtL wtTs at h1
    omega⟩
  have HSUM : Hid (∀ i, sumT wt8 f.tree i ≤ 80000000) := fun i => by
    have h1 := sumT_le wt8 f.tree i
    have h2 := sum_lin wtT 8 64 f.tree
    have h3 := hf.2.2.2.2
    have e : f.tree.map wt8 = f.tree.map (fun x => 8 * wtT x + 64) := rfl
    rw [e, h2] at h1
    unfold wtL wtTs at h3
    omega
  unfold maxLen at m1 m2 m3
  have HLT := hidG hw.lt
  obtain ⟨n1, n2, n3⟩ : f.lits.length ≤ 1048576 ∧ f.chain.length ≤ 1048576 ∧ f.tree.length ≤ 1048576 := by have := hf.2.2.2.2; unfold wtL wtTs at this; omega
  have HSx : Hid (Sx kb ns0 sz0 true [] 20000 w) := ⟨ns0, sz0, hw, fun _ => ⟨by simp, rfl⟩, hn0, hs0⟩
  obtain ⟨W1, hW1⟩ : ∃ W1, w.alloc (.cells #[.int .i64 f.kind, .slice p1 f.lits.length c1, .slice p2 f.chain.length c2, .slice p3 f.tree.length c3] 40) = W1 := ⟨_, rfl⟩
  have HA1 : Hid (Fr kb w W1) := by unfold Hid; rw [← hW1]; exact Fr.of (below_alloc _ _) (Nat.le_of_lt HLT.out)
  have HS1 : Hid (Sx kb ns0 sz0 true [] 20000 W1) := by unfold Hid; rw [← hW1]; exact HSx.out.below (below_alloc _ _)
  have HPB : Hid (W1.heap[w.heap.size]? = some (.cells #[.int .i64 f.kind, .slice p1 f.lits.length c1, .slice p2 f.chain.length c2, .slice p3 f.tree.length c3] 40 (0, 0))) := by unfold Hid; rw [← hW1]; exact Array.getElem?_push_size
  have HCL : Hid (∀ W, Fr kb W1 W → W.cell? ⟨w.heap.size, 0, none⟩ = some (.int .i64 f.kind) ∧ W.cell? ⟨w.heap.size, 1, none⟩ = some (.slice p1 f.lits.length c1) ∧ W.cell? ⟨w.heap.size, 2, none⟩ = some (.slice p2 f.chain.length c2) ∧ W.cell? ⟨w.heap.size, 3, none⟩ = some (.slice p3 f.tree.length c3)) := fun W h => by
    have hb : Bx W w.heap.size [.int .i64 f.kind, .slice p1 f.lits.length c1, .slice p2 f.chain.length c2, .slice p3 f.tree.length c3] := ⟨_, h.keep _ _ HPB.out (by have := HLT.out; omega) (fun c fz e => (by cases e))⟩
    exact c4 hb
  have HLOW : Hid (∀ W, Fr kb W1 W → Below w0.heap.size w0 W) := fun W h => HBL.out.trans ((HA1.out.bel.trans h.bel).mono hw0)
  have HW1 := hidG hW1
  obtain ⟨b0, -, -, -⟩ := HCL.out W1 (Fr.refl _ _)
  clear hf hw hW1 hbl ha3
  go_enter Tryd.func10, Tryd.ntmps10
  go_upto_block 0 with (rw [HW1.out])
  go_cut [4] (fun s4 wx => ∃ nm : List UInt8, s4 = .string (strOf nm) ∧ Sx kb ns0 sz0 (kdOk f.kind) [] 20000 wx ∧ (kdOk f.kind = true → nm = kn f.kind) ∧ nm.length ≤ 6 ∧ Fr kb W1 wx)
  case first =>
    obtain ⟨k, hk⟩ : ∃ k, f.kind = k := ⟨_, rfl⟩
    rw [hk] at b0
    by_cases e1 : k = 1
    · subst e1
      go_wp2_with fail
      go_meet
      rw [hk]
      exact ⟨[101, 113, 117, 97, 108], rfl, HS1.out, fun _ => rfl, by decide, Fr.refl _ _⟩
    by_cases e2 : k = 2
    · subst e2
      go_wp2_with fail
      go_meet
      rw [hk]
      exact ⟨[108, 105, 110, 101, 97, 114], rfl, HS1.out, fun _ => rfl, by decide, Fr.refl _ _⟩
    by_cases e3 : k = 3
    · subst e3
      go_wp2_with fail
      go_meet
      rw [hk]
      exact ⟨[99, 104, 97, 105, 110], rfl, HS1.out, fun _ => rfl, by decide, Fr.refl _ _⟩
    have y1 : (k == 1) = false := by rw [beq_eq_false_iff_ne]; exact e1
    have y2 : (k == 2) = false := by rw [beq_eq_false_iff_ne]; exact e2
    have y3 : (k == 3) = false := by rw [beq_eq_false_iff_ne]; exact e3
    have HKD : Hid (kdOk k = false) := by unfold Hid kdOk; rw [decide_eq_false e1, decide_eq_false e2, decide_eq_false e3]; rfl
    obtain ⟨v, sz, x0, x1, x2, x3, -⟩ := HS1.out.box
    clear e1 e2 e3
    go_wp2_with fail
    go_meet
    rw [hk, HKD.out]
    exact ⟨[101, 113, 117, 97, 108], rfl, HS1.out.bad, fun e => (by cases e), by decide, (Fr.refl _ _).set _⟩
  case rest =>
    obtain ⟨nm, rfl, hsx, hnm, hnl, hfr⟩ := hcut
    rename World => wa
    have HS2 := hidG hsx
    have HF2 := hidG hfr
    have HNM := hidG hnm
    obtain ⟨t, ht⟩ : ∃ t, strOf nm = t := ⟨_, rfl⟩
    have htz : t.size ≤ 6 := by rw [← ht, strOf_size]; exact hnl
    have HTN2 := hidG ht
    rw [ht]
    clear hsx hfr hnm ht b0
    go_wp2_with fail
    refine (list_s kb 4 sz0 20000 ns0 [] _ wa HS2.out (by omega)).mono ?_
    rintro e wb ⟨rfl, hs, hf⟩
    have HSb := hidG hs
    have HFb : Hid (Fr kb W1 wb) := HF2.out.trans hf
    clear hs hf
    go_wp2_with fail
    refine (leaf_s kb sz0 _ 2 t ns0 _ _ wb HSb.out (by omega) (by omega) (by decide)).mono ?_
    rintro e wc ⟨rfl, hs, hf⟩
    have HSc := hidG hs
    have HFc : Hid (Fr kb W1 wc) := HFb.out.trans hf
    obtain ⟨-, b1, -, -⟩ := HCL.out _ HFc.out
    clear hs hf
    go_wp2_with fail
    refine (list_s kb f.lits.length sz0 _ ns0 _ _ wc HSc.out (by omega)).mono ?_
    rintro e wd ⟨rfl, hs, hf⟩
    have HSd : Hid (Sx kb ns0 sz0 (kdOk f.kind) [listN 4, ⟨2, t, 0⟩, listN f.lits.length] 20100 wd) := hs.mono (by omega)
    have HFRd : Hid (Fr kb W1 wd) := HFc.out.trans hf
    obtain ⟨-, b2, -, -⟩ := HCL.out _ HFRd.out
    clear hs hf b1
    go_wp2_with fail
    clear b2
    go_loopw [37] (fun iv wr => ∃ i : Nat, i ≤ f.lits.length ∧ iv = .int .i64 (i : Nat) ∧ Sx kb ns0 sz0 (kdOk f.kind && litsB f.lits i) ([listN 4, ⟨2, t, 0⟩, listN f.lits.length] ++ litsX f.lits i) (20100 + 30 * i) wr ∧ Fr kb W1 wr) (fun iv _ => f.lits.length - (intOf iv).toNat)
    case atStart => exact ⟨0, Nat.zero_le _, rfl, by rw [show litsB f.lits 0 = true from rfl, Bool.and_true, show litsX f.lits 0 = [] from rfl, List.append_nil]; exact HSd.out, HFRd.out⟩
    case round =>
      obtain ⟨i, hi, rfl, hsx, hfr⟩ := hrel
      have HSR := hidG hsx
      have HFR := hidG hfr
      have HLW : Hid (kb < wr.heap.size) := hsx.lt
      have HBW : Hid (Below kb w wr) := HA1.out.bel.trans hfr.bel
      clear hsx hfr
      by_cases hlt : i < f.lits.length
      · obtain ⟨p', c', he, -, -, hA⟩ := H1.out wr HBW.out
        obtain ⟨rfl, -, rfl⟩ : p1 = p' ∧ f.lits.length = f.lits.length ∧ c1 = c' := by injection he with e1 e2 e3; exact ⟨e1, rfl, e3⟩
        obtain ⟨b, rfl, hb, hcc⟩ : ∃ b, p1 = some ⟨b, 0, none⟩ ∧ b < wr.heap.size ∧ ∀ i (h : i < f.lits.length), wr.cell? ⟨b, i, none⟩ = some (.int .i64 f.lits[i]) := by
          rcases hA with h | h
          · rw [h] at hlt; exact absurd hlt (Nat.not_lt_zero _)
          · exact h
        have k0 := hcc i hlt
        have hx0 : r64 f.lits[i] := HF.out.2.1 _ (List.getElem_mem hlt)
        have HXS := hidG (litsX_succ hlt)
        have HBS := hidG (litsB_succ hlt)
        obtain ⟨x, hx⟩ : ∃ x, f.lits[i] = x := ⟨_, rfl⟩
        rw [hx] at k0 hx0 HXS HBS
        have HIS := hidG (itoa_isI x hx0.1 hx0.2)
        have HX0 := hidG hx0
        clear hcc hx hA he hx0
        by_cases e0 : x = 0
        · subst e0
          have y0 : ((0 : Int) == 0) = true := rfl
          have HBF : Hid (litsB f.lits (i + 1) = false) := by unfold Hid; rw [HBS.out]; rw [decide_eq_false (fun h => h rfl), Bool.and_false]
          obtain ⟨v', sz', x0, x1, x2, x3, -⟩ := HSR.out.box
          have HS2 : Hid (Sx kb ns0 sz0 false ([listN 4, ⟨2, t, 0⟩, listN f.lits.length] ++ litsX f.lits (i + 1)) (20100 + 30 * i) (wr.setCell ⟨kb, 1, none⟩ (.bool true))) := HSR.out.bad
          have HF2 : Hid (Fr kb W1 (wr.setCell ⟨kb, 1, none⟩ (.bool true))) := HFR.out.set _
          go_wp2_with (first
            | (go_at_call 23; refine (l12Signed_any _ _ HX0.out.1 HX0.out.2).mono ?_; rintro e w3 ⟨rfl, hb3⟩; have HS3 := hidG (HS2.out.below hb3); have HF3 : Hid (Fr kb W1 w3) := HF2.out.trans (Fr.of hb3 (Nat.le_of_lt HS2.out.lt)); clear hb3)
            | (go_at_call 22; refine (int_s kb sz0 _ _ ns0 _ _ w3 HS3.out (by omega) (by have := HIS.out.2.1; omega)).mono ?_; rintro e w4 ⟨rfl, hs4, hf4⟩; have HS4 := hidG hs4; have HF4 : Hid (Fr kb W1 w4) := HF3.out.trans hf4; clear hs4 hf4))
          go_roundw
          case rel =>
            refine ⟨i + 1, by omega, by go_num, ?_, HF4.out⟩
            have := HS4.out
            rw [Bool.false_and] at this
            rw [HBF.out, Bool.and_false]
            exact this.wrong.mono (by have := HIS.out.2.1; omega)
          case measure => simp [intOf]; omega
        · have y0 : (x == 0) = false := by rw [beq_eq_false_iff_ne]; exact e0
          have HBT : Hid (litsB f.lits (i + 1) = litsB f.lits i) := by unfold Hid; rw [HBS.out]; rw [decide_eq_true e0, Bool.and_true]
          go_wp2_with (first
            | (go_at_call 23; refine (l12Signed_any _ _ HX0.out.1 HX0.out.2).mono ?_; rintro e w3 ⟨rfl, hb3⟩; have HS3 := hidG (HSR.out.below hb3); have HF3 : Hid (Fr kb W1 w3) := HFR.out.trans (Fr.of hb3 (Nat.le_of_lt HLW.out)); clear hb3)
            | (go_at_call 22; refine (int_s kb sz0 _ _ ns0 _ _ w3 HS3.out (by omega) (by have := HIS.out.2.1; omega)).mono ?_; rintro e w4 ⟨rfl, hs4, hf4⟩; have HS4 := hidG hs4; have HF4 : Hid (Fr kb W1 w4) := HF3.out.trans hf4; clear hs4 hf4))
          go_roundw
          case rel =>
            refine ⟨i + 1, by omega, by go_num, ?_, HF4.out⟩
            have := HS4.out
            rw [HIS.out.1, Bool.and_true, List.append_assoc, ← HXS.out] at this
            rw [HBT.out]
            exact this.mono (by have := HIS.out.2.1; omega)
          case measure => simp [intOf]; omega
      · have hie : i = f.lits.length := by omega
        subst hie
        obtain ⟨-, -, b3, -⟩ := HCL.out _ HFR.out
        go_wp2_with fail
        obtain ⟨X4, hX4⟩ : ∃ X, [listN 4, ⟨2, t, 0⟩, listN f.lits.length] ++ litsX f.lits f.lits.length = X := ⟨_, rfl⟩
        obtain ⟨ok4, hok4⟩ : ∃ b, (kdOk f.kind && litsB f.lits f.lits.length) = b := ⟨_, rfl⟩
        rw [hX4, hok4] at HSR
        have HX4 := hidG hX4
        have HOK4 := hidG hok4
        clear hX4 hok4 b3
        refine (list_s kb f.chain.length sz0 _ ns0 _ _ wr HSR.out (by omega)).mono ?_
        rintro e we ⟨rfl, hs, hf⟩
        have HSe : Hid (Sx kb ns0 sz0 ok4 (X4 ++ [listN f.chain.length]) 40000000 we) := hs.mono (by omega)
        have HFRe : Hid (Fr kb W1 we) := HFR.out.trans hf
        obtain ⟨-, -, b3, -⟩ := HCL.out _ HFRe.out
        clear hs hf HSR HFR HLW HBW
        go_wp2_with fail
        clear b3
        go_loopw [59] (fun iv wr => ∃ i : Nat, i ≤ f.chain.length ∧ iv = .int .i64 (i : Nat) ∧ Sx kb ns0 sz0 (ok4 && chB f.chain i) ((X4 ++ [listN f.chain.length]) ++ litsX f.chain i) (40000000 + 30 * i) wr ∧ Fr kb W1 wr) (fun iv _ => f.chain.length - (intOf iv).toNat)
        case atStart => exact ⟨0, Nat.zero_le _, rfl, by rw [show chB f.chain 0 = true from rfl, Bool.and_true, show litsX f.chain 0 = [] from rfl, List.append_nil]; exact HSe.out, HFRe.out⟩
        case round =>
          obtain ⟨i, hi, rfl, hsx, hfr⟩ := hrel
          have HSR := hidG hsx
          have HFR := hidG hfr
          have HLW : Hid (kb < wr.heap.size) := hsx.lt
          have HBW : Hid (Below kb w wr) := HA1.out.bel.trans hfr.bel
          clear hsx hfr
          by_cases hlt : i < f.chain.length
          · obtain ⟨p', c', he, -, -, hA⟩ := H2.out wr HBW.out
            obtain ⟨rfl, -, rfl⟩ : p2 = p' ∧ f.chain.length = f.chain.length ∧ c2 = c' := by injection he with e1 e2 e3; exact ⟨e1, rfl, e3⟩
            obtain ⟨b, rfl, hb, hcc⟩ : ∃ b, p2 = some ⟨b, 0, none⟩ ∧ b < wr.heap.size ∧ ∀ i (h : i < f.chain.length), wr.cell? ⟨b, i, none⟩ = some (.int .i64 f.chain[i]) := by
              rcases hA with h | h
              · rw [h] at hlt; exact absurd hlt (Nat.not_lt_zero _)
              · exact h
            have k0 := hcc i hlt
            have hx0 : r64 f.chain[i] := HF.out.2.2.1 _ (List.getElem_mem hlt)
            have HXS := hidG (litsX_succ hlt)
            have HBS := hidG (chB_succ hlt)
            obtain ⟨x, hx⟩ : ∃ x, f.chain[i] = x := ⟨_, rfl⟩
            rw [hx] at k0 hx0 HXS HBS
            have HIS := hidG (itoa_isI x hx0.1 hx0.2)
            have HX0 := hidG hx0
            clear hcc hx hA he hx0
            by_cases e0 : x < 0
            · have y0 : decide (x < 0) = true := decide_eq_true e0
              have HBF : Hid (chB f.chain (i + 1) = false) := by unfold Hid; rw [HBS.out]; rw [decide_eq_false (by omega), Bool.and_false]
              obtain ⟨v', sz', x0, x1, x2, x3, -⟩ := HSR.out.box
              have HS2 : Hid (Sx kb ns0 sz0 false ((X4 ++ [listN f.chain.length]) ++ litsX f.chain (i + 1)) (40000000 + 30 * i) (wr.setCell ⟨kb, 1, none⟩ (.bool true))) := HSR.out.bad
              have HF2 : Hid (Fr kb W1 (wr.setCell ⟨kb, 1, none⟩ (.bool true))) := HFR.out.set _
              go_wp2_with (first
                | (go_at_call 23; refine (l12Signed_any x _ HX0.out.1 HX0.out.2).mono ?_; rintro e w3 ⟨rfl, hb3⟩; have HS3 := hidG (HS2.out.below hb3); have HF3 : Hid (Fr kb W1 w3) := HF2.out.trans (Fr.of hb3 (Nat.le_of_lt HS2.out.lt)); clear hb3)
                | (go_at_call 22; refine (int_s kb sz0 _ (Lib.itoa x) ns0 _ _ w3 HS3.out (by omega) (by have := HIS.out.2.1; omega)).mono ?_; rintro e w4 ⟨rfl, hs4, hf4⟩; have HS4 := hidG hs4; have HF4 : Hid (Fr kb W1 w4) := HF3.out.trans hf4; clear hs4 hf4))
              go_roundw
              case rel =>
                refine ⟨i + 1, by omega, by go_num, ?_, HF4.out⟩
                have := HS4.out
                rw [Bool.false_and] at this
                rw [HBF.out, Bool.and_false]
                exact this.wrong.mono (by have := HIS.out.2.1; omega)
              case measure => simp [intOf]; omega
            · have y0 : decide (x < 0) = false := decide_eq_false e0
              have HBT : Hid (chB f.chain (i + 1) = chB f.chain i) := by unfold Hid; rw [HBS.out]; rw [decide_eq_true (by omega), Bool.and_true]
              go_wp2_with (first
                | (go_at_call 23; refine (l12Signed_any x _ HX0.out.1 HX0.out.2).mono ?_; rintro e w3 ⟨rfl, hb3⟩; have HS3 := hidG (HSR.out.below hb3); have HF3 : Hid (Fr kb W1 w3) := HFR.out.trans (Fr.of hb3 (Nat.le_of_lt HLW.out)); clear hb3)
                | (go_at_call 22; refine (int_s kb sz0 _ (Lib.itoa x) ns0 _ _ w3 HS3.out (by omega) (by have := HIS.out.2.1; omega)).mono ?_; rintro e w4 ⟨rfl, hs4, hf4⟩; have HS4 := hidG hs4; have HF4 : Hid (Fr kb W1 w4) := HF3.out.trans hf4; clear hs4 hf4))
              go_roundw
              case rel =>
                refine ⟨i + 1, by omega, by go_num, ?_, HF4.out⟩
                have := HS4.out
                rw [HIS.out.1, Bool.and_true, List.append_assoc, ← HXS.out] at this
                rw [HBT.out]
                exact this.mono (by have := HIS.out.2.1; omega)
              case measure => simp [intOf]; omega
          · have hie : i = f.chain.length := by omega
            subst hie
            obtain ⟨-, -, -, b4⟩ := HCL.out _ HFR.out
            go_wp2_with fail
            obtain ⟨X5, hX5⟩ : ∃ X, X4 ++ [listN f.chain.length] ++ litsX f.chain f.chain.length = X := ⟨_, rfl⟩
            obtain ⟨ok5, hok5⟩ : ∃ b, (ok4 && chB f.chain f.chain.length) = b := ⟨_, rfl⟩
            rw [hX5, hok5] at HSR
            have HX5 := hidG hX5
            have HOK5 := hidG hok5
            clear hX5 hok5 b4
            refine (list_s kb f.tree.length sz0 _ ns0 _ _ wr HSR.out (by omega)).mono ?_
            rintro e wf ⟨rfl, hs, hf⟩
            have HSf : Hid (Sx kb ns0 sz0 ok5 (X5 ++ [listN f.tree.length]) 80000000 wf) := hs.mono (by omega)
            have HFRf : Hid (Fr kb W1 wf) := HFR.out.trans hf
            obtain ⟨-, -, -, b4⟩ := HCL.out _ HFRf.out
            clear hs hf HSR HFR HLW HBW
            go_wp2_with fail
            clear b4
            have HK5 : Hid (∀ i, (ok5 && treeB f.tree i) = (kdOk f.kind && !f.lits.contains 0 && f.chain.all (fun n => decide (0 ≤ n)) && treeB f.tree i)) := fun i => by rw [← HOK5.out, ← HOK4.out, litsB_all, chB_all]
            have HXX : Hid (kdOk f.kind = true → ∀ i, X5 ++ [listN f.tree.length] ++ treeX f.tree i = [listN 4, nameN (kn f.kind), listN f.lits.length] ++ litsX f.lits f.lits.length ++ [listN f.chain.length] ++ litsX f.chain f.chain.length ++ [listN f.tree.length] ++ treeX f.tree i) := fun hk i => by
              rw [← HX5.out, ← HX4.out, ← HTN2.out, HNM.out hk]
              rfl
            have HXLE : Hid (∀ i, (ok5 && treeB f.tree i) = true → szN (X5 ++ [listN f.tree.length] ++ treeX f.tree i) ≤ szN (lemP f).1) := fun i e => by
              rw [HK5.out] at e
              simp only [Bool.and_eq_true] at e
              have h1 := treeX_le f.tree i
              rw [HXX.out e.1.1.1 i, lemP_nodes, szN_app _ (treeX f.tree i), szN_app _ (treeX f.tree f.tree.length)]
              omega
            have HOKB : Hid (∀ i, (ok5 && treeB f.tree i) = false → lemOk f = false) := fun i e => by
              rw [HK5.out] at e
              unfold lemOk
              cases hb : treeB f.tree i with
              | false => rw [treeB_bad hb, Bool.and_false]
              | true => rw [hb, Bool.and_true] at e; rw [e, Bool.false_and]
            have HEND : Hid ((ok5 && treeB f.tree f.tree.length) = lemOk f ∧ (lemOk f = true → X5 ++ [listN f.tree.length] ++ treeX f.tree f.tree.length = (lemP f).1)) := by
              refine ⟨?_, fun e => ?_⟩
              · rw [HK5.out, treeB_all]; rfl
              · unfold lemOk at e
                simp only [Bool.and_eq_true] at e
                rw [HXX.out e.1.1.1, lemP_nodes]
            go_loopw [81] (fun iv wr => ∃ i : Nat, i ≤ f.tree.length ∧ iv = .int .i64 (i : Nat) ∧ Sx kb ns0 sz0 (ok5 && treeB f.tree i) ((X5 ++ [listN f.tree.length]) ++ treeX f.tree i) (80000000 + sumT wt8 f.tree i) wr ∧ Fr kb W1 wr) (fun iv _ => f.tree.length - (intOf iv).toNat)
            case atStart => exact ⟨0, Nat.zero_le _, rfl, by rw [show treeB f.tree 0 = true from rfl, Bool.and_true, show treeX f.tree 0 = [] from rfl, List.append_nil, sumT_zero]; exact HSf.out, HFRf.out⟩
            case round =>
              obtain ⟨i, hi, rfl, hsx, hfr⟩ := hrel
              have HSR := hidG hsx
              have HFR := hidG hfr
              have HLW : Hid (kb < wr.heap.size) := hsx.lt
              have hbw := HLOW.out wr hfr
              have hsum := HSUM.out i
              clear hsx hfr
              by_cases hlt : i < f.tree.length
              · obtain ⟨b, off, rfl, hb, hcc⟩ : ∃ b off, p3 = some ⟨b, off, none⟩ ∧ b < w0.heap.size ∧ ∀ i (h : i < f.tree.length), w0.cell? ⟨b, off + i * 3, none⟩ = some (.int .i64 f.tree[i].col) ∧ w0.cell? ⟨b, off + i * 3 + 1, none⟩ = some (.string (strOf f.tree[i].pl)) ∧ (∃ va, w0.cell? ⟨b, off + i * 3 + 2, none⟩ = some va ∧ StrsAt w0 va f.tree[i].mu) := by
                  rcases HA3.out with h | h
                  · rw [h] at hlt; exact absurd hlt (Nat.not_lt_zero _)
                  · exact h
                obtain ⟨k0, k1, va, k2, hva⟩ := hcc i hlt
                rw [← hbw.cell (p := ⟨b, off + i * 3, none⟩) hb] at k0
                rw [← hbw.cell (p := ⟨b, off + i * 3 + 1, none⟩) hb] at k1
                rw [← hbw.cell (p := ⟨b, off + i * 3 + 2, none⟩) hb] at k2
                have hg0 := HTN.out _ (List.getElem_mem hlt)
                have HXS := hidG (treeX_succ hlt)
                have HBS := hidG (treeB_succ hlt)
                have HSS := hidG (sumT_succ wt8 hlt)
                obtain ⟨g, hg⟩ : ∃ g, f.tree[i] = g := ⟨_, rfl⟩
                rw [hg] at k0 k1 hva hg0 HXS HBS HSS
                have HG0 := hidG hg0
                have HVA := hidG hva
                obtain ⟨pa, ca, rfl, la, ma, hmu⟩ := hva
                unfold maxLen at ma
                have HMU := hidG hmu
                have hgw : wtT g ≤ 1048576 := hg0.2
                have hgm : g.mu.length ≤ 1048576 ∧ g.pl.length ≤ 1048576 := by unfold wtT wtS at hgw; omega
                obtain ⟨hgm, hgp⟩ := hgm
                have hsum1 := HSUM.out (i + 1)
                have h8 : wt8 g = 8 * wtT g + 64 := rfl
                rw [HSS.out, h8] at hsum1
                obtain ⟨W3, hW3⟩ : ∃ W3, wr.alloc (.cells #[.int .i64 g.col, .string (strOf g.pl), .slice pa g.mu.length ca] 65) = W3 := ⟨_, rfl⟩
                have HF3 : Hid (Fr kb W1 W3) := by unfold Hid; rw [← hW3]; exact HFR.out.trans (Fr.of (below_alloc _ _) (Nat.le_of_lt HLW.out))
                have HS3 : Hid (Sx kb ns0 sz0 (ok5 && treeB f.tree i) ((X5 ++ [listN f.tree.length]) ++ treeX f.tree i) (80000000 + sumT wt8 f.tree i) W3) := by unfold Hid; rw [← hW3]; exact HSR.out.below (below_alloc _ _)
                have HNP : Hid (W3.heap[wr.heap.size]? = some (.cells #[.int .i64 g.col, .string (strOf g.pl), .slice pa g.mu.length ca] 65 (0, 0))) := by unfold Hid; rw [← hW3]; exact Array.getElem?_push_size
                have HNB : Hid (∀ W, Fr kb W3 W → W.cell? ⟨wr.heap.size, 0, none⟩ = some (.int .i64 g.col) ∧ W.cell? ⟨wr.heap.size, 1, none⟩ = some (.string (strOf g.pl)) ∧ W.cell? ⟨wr.heap.size, 2, none⟩ = some (.slice pa g.mu.length ca)) := fun W h => by
                  have hb : Bx W wr.heap.size [.int .i64 g.col, .string (strOf g.pl), .slice pa g.mu.length ca] := ⟨_, h.keep _ _ HNP.out (by have := HLW.out; omega) (fun c fz e => (by cases e))⟩
                  exact hb.c3
                have HW3 := hidG hW3
                obtain ⟨v', sz', x0, x1, x2, x3, -, hszb⟩ := HS3.out.box
                obtain ⟨d0, d1, d2⟩ := HNB.out W3 (Fr.refl _ _)
                clear hcc hg hmu hg0 hbw hW3
                by_cases hbig : 20000 < sz'
                · have yb : decide (20000 < (sz' : Int)) = true := decide_eq_true (by omega)
                  have HDN : Hid (Done kb f ns0 sz0 W3) := done_early HS3.out (by omega) (fun e => HXLE.out i e) (fun e => HOKB.out i e) x2 hbig
                  go_wp2_with (rw [HW3.out])
                  exact bodyPost_ret (results_none rfl _ _ _) rfl ⟨rfl, HDN.out, HA1.out.trans HF3.out⟩
                have yb : decide (20000 < (sz' : Int)) = false := decide_eq_false (by omega)
                cases hlf : isLf g with
                | true =>
                  obtain ⟨hc1, hc2⟩ : g.col = -1 ∧ g.pl = [] := by
                    unfold isLf at hlf
                    rw [Bool.and_eq_true, decide_eq_true_eq, List.isEmpty_iff] at hlf
                    exact hlf
                  have y1 : (g.col == -1) = true := by rw [beq_iff_eq]; exact hc1
                  have y2 : (strOf g.pl).toList.isEmpty = true := by rw [ByteArray.toList_eq, strOf_toList, hc2]; rfl
                  have HTX := hidG (tnP_leafN hlf)
                  have HTO : Hid (tnOk g = g.mu.all isI) := by unfold Hid tnOk; rw [if_pos hlf]
                  have HCA : Hid (Calls Tryd.prog 20 #[.pointer (some ⟨kb, 0, none⟩), .int .i64 (1 + (g.mu.length : Int))] W3 fun e w' => e = .returned (.tuple #[]) ∧ Sx kb ns0 sz0 (ok5 && treeB f.tree i) ((X5 ++ [listN f.tree.length]) ++ treeX f.tree i ++ [listN (1 + g.mu.length)]) (80000000 + sumT wt8 f.tree i + 2) w' ∧ Fr kb W3 w') := by
                    unfold Hid
                    rw [show (1 + (g.mu.length : Int)) = ((1 + g.mu.length : Nat) : Int) by omega]
                    exact list_s kb _ sz0 _ ns0 _ _ W3 HS3.out (by omega)
                  clear hlf hc1 hc2 x0 x1 x3
                  go_wp2_with (rw [HW3.out])
                  refine HCA.out.mono ?_
                  rintro e wg ⟨rfl, hs, hf⟩
                  have HSg := hidG hs
                  have HFg := hidG hf
                  clear hs hf x2 d0 d1 d2
                  go_wp2_with fail
                  refine (leaf_s kb sz0 _ 2 ⟨#[108, 101, 97, 102]⟩ ns0 _ _ wg HSg.out (by omega) (by decide) (by decide)).mono ?_
                  rintro e wh ⟨rfl, hs, hf⟩
                  have HSh := hidG hs
                  have HFh : Hid (Fr kb W3 wh) := HFg.out.trans hf
                  obtain ⟨-, -, d2⟩ := HNB.out wh HFh.out
                  clear hs hf
                  go_wp2_with fail
                  clear d2
                  obtain ⟨X6, hX6⟩ : ∃ X, (X5 ++ [listN f.tree.length]) ++ treeX f.tree i ++ [listN (1 + g.mu.length)] ++ [⟨2, ⟨#[108, 101, 97, 102]⟩, 0⟩] = X := ⟨_, rfl⟩
                  obtain ⟨b6, hb6⟩ : ∃ b, 80000000 + sumT wt8 f.tree i + 2 + ((⟨#[108, 101, 97, 102]⟩ : ByteArray).size + 1) = b := ⟨_, rfl⟩
                  obtain ⟨ok6, hok6⟩ : ∃ b, (ok5 && treeB f.tree i) = b := ⟨_, rfl⟩
                  rw [hX6, hb6, hok6] at HSh
                  have hb6' : b6 = 80000000 + sumT wt8 f.tree i + 7 := by rw [← hb6]; rfl
                  have HX6 := hidG hX6
                  have HOK6 := hidG hok6
                  clear hX6 hb6 hok6
                  go_loopw [109] (fun iv wq => ∃ j : Nat, j ≤ g.mu.length ∧ iv = .int .i64 (j : Nat) ∧ Sx kb ns0 sz0 (ok6 && muB g.mu j) (X6 ++ muX g.mu j) (b6 + sumT (fun m => m.length + 5) g.mu j) wq ∧ Fr kb W3 wq) (fun iv _ => g.mu.length - (intOf iv).toNat)
                  case atStart => exact ⟨0, Nat.zero_le _, rfl, by rw [show muB g.mu 0 = true from rfl, Bool.and_true, show muX g.mu 0 = [] from rfl, List.append_nil, sumT_zero]; exact HSh.out, HFh.out⟩
                  case round =>
                    obtain ⟨j, hj, rfl, hsx, hfr⟩ := hrel
                    have HSQ := hidG hsx
                    have HFQ := hidG hfr
                    have hbq := HLOW.out wr (HF3.out.trans hfr)
                    have hsj := mu_sum g.mu j
                    have hwm : wtS g.mu ≤ wtT g := by unfold wtT; omega
                    clear hsx hfr
                    by_cases hjl : j < g.mu.length
                    · obtain ⟨bm, rfl, hbm, hcm⟩ : ∃ b, pa = some ⟨b, 0, none⟩ ∧ b < w0.heap.size ∧ ∀ i (h : i < g.mu.length), w0.cell? ⟨b, i, none⟩ = some (.string (strOf g.mu[i])) := by
                        rcases HMU.out with h | h
                        · rw [h] at hjl; exact absurd hjl (Nat.not_lt_zero _)
                        · exact h
                      have k5 := hcm j hjl
                      rw [← hbq.cell (p := ⟨bm, j, none⟩) hbm] at k5
                      have HMX := hidG (muX_succ hjl)
                      have HMB := hidG (muB_succ hjl)
                      have HMS := hidG (sumT_succ (fun m : List UInt8 => m.length + 5) hjl)
                      have hml : g.mu[j].length ≤ 1048576 := by
                        have : g.mu[j].length ≤ (g.mu.map List.length).sum := le_sum (List.mem_map.2 ⟨_, List.getElem_mem hjl, rfl⟩)
                        unfold wtS at hwm
                        omega
                      obtain ⟨m, hm⟩ : ∃ m, g.mu[j] = m := ⟨_, rfl⟩
                      rw [hm] at k5 HMX HMB HMS hml
                      clear hcm hm hbq
                      go_wp2_with (go_at_call 22; refine (int_s kb sz0 _ m ns0 _ _ wr HSQ.out (by omega) (by omega)).mono ?_; rintro e w4 ⟨rfl, hs4, hf4⟩; have HS4 := hidG hs4; have HF4 : Hid (Fr kb W3 w4) := HFQ.out.trans hf4; clear hs4 hf4)
                      go_roundw
                      case rel =>
                        refine ⟨j + 1, by omega, by go_num, ?_, HF4.out⟩
                        have := HS4.out
                        rw [List.append_assoc, ← HMX.out, Bool.and_assoc, ← HMB.out] at this
                        rw [HMS.out]
                        exact this.mono (by omega)
                      case measure => simp [intOf]; omega
                    · have hje : j = g.mu.length := by omega
                      subst hje
                      clear hbq
                      go_wp2_with fail
                      go_roundw
                      case rel =>
                        refine ⟨i + 1, by omega, by go_num, ?_, HF3.out.trans HFQ.out⟩
                        have hS := HSQ.out
                        rw [← HOK6.out, muB_all, ← HTO.out, Bool.and_assoc, ← HBS.out, ← HX6.out] at hS
                        rw [HXS.out, HTX.out, HSS.out, h8]
                        have e : X5 ++ [listN f.tree.length] ++ treeX f.tree i ++ [listN (1 + g.mu.length)] ++ [⟨2, ⟨#[108, 101, 97, 102]⟩, 0⟩] ++ muX g.mu g.mu.length = X5 ++ [listN f.tree.length] ++ (treeX f.tree i ++ ([listN (1 + g.mu.length), nameN leafB] ++ muX g.mu g.mu.length)) := by
                          simp only [List.append_assoc, List.cons_append, List.nil_append]
                          rfl
                        rw [e] at hS
                        exact hS.mono (by omega)
                      case measure => simp [intOf]; omega
                | false =>
                  have HTX := hidG (tnP_branchN hlf)
                  have HTO : Hid (tnOk g = (decide (0 ≤ g.col) && g.mu.isEmpty && isI g.pl)) := by unfold Hid tnOk; rw [hlf]; rfl
                  have HIS := hidG (itoa_isI g.col HG0.out.1.1 HG0.out.1.2)
                  have HFIN : Hid (∀ (okq : Bool) (Wk : World), okq = (ok5 && treeB f.tree i && (decide (0 ≤ g.col) && g.mu.isEmpty)) → Sx kb ns0 sz0 (okq && isI (Lib.itoa g.col) && isI g.pl) ((X5 ++ [listN f.tree.length]) ++ treeX f.tree i ++ [listN 3] ++ [⟨2, ⟨#[98, 114, 97, 110, 99, 104]⟩, 0⟩] ++ intN (Lib.itoa g.col) ++ intN g.pl) (80000000 + sumT wt8 f.tree i + 2 + ((⟨#[98, 114, 97, 110, 99, 104]⟩ : ByteArray).size + 1) + ((Lib.itoa g.col).length + 5) + (g.pl.length + 5)) Wk → Sx kb ns0 sz0 (ok5 && treeB f.tree (i + 1)) ((X5 ++ [listN f.tree.length]) ++ treeX f.tree (i + 1)) (80000000 + sumT wt8 f.tree (i + 1)) Wk) := fun okq Wk hq hS => by
                    subst hq
                    have e : (X5 ++ [listN f.tree.length]) ++ treeX f.tree i ++ [listN 3] ++ [⟨2, ⟨#[98, 114, 97, 110, 99, 104]⟩, 0⟩] ++ intN (Lib.itoa g.col) ++ intN g.pl = X5 ++ [listN f.tree.length] ++ (treeX f.tree i ++ ([listN 3, nameN branchB] ++ intN (Lib.itoa g.col) ++ intN g.pl)) := by
                      simp only [List.append_assoc, List.cons_append, List.nil_append]
                      rfl
                    have e2 : (ok5 && treeB f.tree i && (decide (0 ≤ g.col) && g.mu.isEmpty) && isI (Lib.itoa g.col) && isI g.pl) = (ok5 && treeB f.tree (i + 1)) := by
                      rw [HBS.out, HTO.out, HIS.out.1, Bool.and_true]
                      simp only [Bool.and_assoc]
                    have e3 : (⟨#[98, 114, 97, 110, 99, 104]⟩ : ByteArray).size = 6 := rfl
                    rw [e, e2, e3] at hS
                    rw [HXS.out, HTX.out, HSS.out, h8]
                    have h21 := HIS.out.2.1
                    have hpw : g.pl.length ≤ wtT g := by unfold wtT; omega
                    exact hS.mono (by omega)
                  have HWRONG : Hid (∀ W, W = W3.setCell ⟨kb, 1, none⟩ (.bool true) → Sx kb ns0 sz0 false ((X5 ++ [listN f.tree.length]) ++ treeX f.tree i) (80000000 + sumT wt8 f.tree i) W) := fun W hW => by rw [hW]; exact HS3.out.bad
                  by_cases hc1 : g.col = -1
                  · have y1 : (g.col == -1) = true := by rw [beq_iff_eq]; exact hc1
                    have hpl : g.pl ≠ [] := fun e => by unfold isLf at hlf; rw [hc1, e] at hlf; cases hlf
                    have y2 : (strOf g.pl).toList.isEmpty = false := by rw [ByteArray.toList_eq, strOf_toList]; simpa using hpl
                    have y3 : decide (g.col < 0) = true := decide_eq_true (by omega)
                    have HQ : Hid (false = (ok5 && treeB f.tree i && (decide (0 ≤ g.col) && g.mu.isEmpty))) := by unfold Hid; rw [decide_eq_false (show ¬ 0 ≤ g.col by omega), Bool.false_and, Bool.and_false]
                    obtain ⟨W4, hW4⟩ : ∃ W4, W3.setCell ⟨kb, 1, none⟩ (.bool true) = W4 := ⟨_, rfl⟩
                    have HS4 := hidG (HWRONG.out W4 hW4.symm)
                    have HF4 : Hid (Fr kb W3 W4) := by unfold Hid; rw [← hW4]; exact (Fr.refl _ _).set _
                    have HW4 := hidG hW4
                    clear hW4 hc1
                    go_wp2_with (first | rw [HW3.out] | rw [HW4.out])
                    clear x0 x1 x2 x3 d0 d1 d2
                    refine (list_s kb 3 sz0 _ ns0 _ _ W4 HS4.out (by omega)).mono ?_
                    rintro e wg ⟨rfl, hs, hf⟩
                    have HSg := hidG hs
                    have HFg : Hid (Fr kb W3 wg) := HF4.out.trans hf
                    clear hs hf
                    go_wp2_with fail
                    refine (leaf_s kb sz0 _ 2 ⟨#[98, 114, 97, 110, 99, 104]⟩ ns0 _ _ wg HSg.out (by omega) (by decide) (by decide)).mono ?_
                    rintro e wh ⟨rfl, hs, hf⟩
                    have HSh := hidG hs
                    have HFh : Hid (Fr kb W3 wh) := HFg.out.trans hf
                    obtain ⟨d0, -, -⟩ := HNB.out wh HFh.out
                    clear hs hf HSg HFg
                    go_wp2_with fail
                    refine (l12Signed_any g.col wh HG0.out.1.1 HG0.out.1.2).mono ?_
                    rintro e wi ⟨rfl, hb5⟩
                    have HSi := hidG (HSh.out.below hb5)
                    have HFi : Hid (Fr kb W3 wi) := HFh.out.trans (Fr.of hb5 (Nat.le_of_lt HSh.out.lt))
                    clear hb5 HSh HFh d0
                    have h21 := HIS.out.2.1
                    have h66 : (⟨#[98, 114, 97, 110, 99, 104]⟩ : ByteArray).size = 6 := rfl
                    go_wp2_with fail
                    refine (int_s kb sz0 _ (Lib.itoa g.col) ns0 _ _ wi HSi.out (by omega) (by omega)).mono ?_
                    rintro e wj ⟨rfl, hs, hf⟩
                    have HSj := hidG hs
                    have HFj : Hid (Fr kb W3 wj) := HFi.out.trans hf
                    obtain ⟨-, d1, -⟩ := HNB.out wj HFj.out
                    clear hs hf HSi HFi
                    go_wp2_with fail
                    refine (int_s kb sz0 _ g.pl ns0 _ _ wj HSj.out (by omega) hgp).mono ?_
                    rintro e wk ⟨rfl, hs, hf⟩
                    have HSk := hidG hs
                    have HFk : Hid (Fr kb W3 wk) := HFj.out.trans hf
                    clear hs hf HSj HFj d1
                    go_wp2_with fail
                    go_roundw
                    case rel => exact ⟨i + 1, by omega, by go_num, HFIN.out false wk (HQ.out) HSk.out, HF3.out.trans HFk.out⟩
                    case measure => simp [intOf]; omega
                  have y1 : (g.col == -1) = false := by rw [beq_eq_false_iff_ne]; exact hc1
                  by_cases hc2 : g.col < 0
                  · have y3 : decide (g.col < 0) = true := decide_eq_true hc2
                    have HQ : Hid (false = (ok5 && treeB f.tree i && (decide (0 ≤ g.col) && g.mu.isEmpty))) := by unfold Hid; rw [decide_eq_false (show ¬ 0 ≤ g.col by omega), Bool.false_and, Bool.and_false]
                    obtain ⟨W4, hW4⟩ : ∃ W4, W3.setCell ⟨kb, 1, none⟩ (.bool true) = W4 := ⟨_, rfl⟩
                    have HS4 := hidG (HWRONG.out W4 hW4.symm)
                    have HF4 : Hid (Fr kb W3 W4) := by unfold Hid; rw [← hW4]; exact (Fr.refl _ _).set _
                    have HW4 := hidG hW4
                    clear hW4
                    go_wp2_with (first | rw [HW3.out] | rw [HW4.out])
                    clear x0 x1 x2 x3 d0 d1 d2
                    refine (list_s kb 3 sz0 _ ns0 _ _ W4 HS4.out (by omega)).mono ?_
                    rintro e wg ⟨rfl, hs, hf⟩
                    have HSg := hidG hs
                    have HFg : Hid (Fr kb W3 wg) := HF4.out.trans hf
                    clear hs hf
                    go_wp2_with fail
                    refine (leaf_s kb sz0 _ 2 ⟨#[98, 114, 97, 110, 99, 104]⟩ ns0 _ _ wg HSg.out (by omega) (by decide) (by decide)).mono ?_
                    rintro e wh ⟨rfl, hs, hf⟩
                    have HSh := hidG hs
                    have HFh : Hid (Fr kb W3 wh) := HFg.out.trans hf
                    obtain ⟨d0, -, -⟩ := HNB.out wh HFh.out
                    clear hs hf HSg HFg
                    go_wp2_with fail
                    refine (l12Signed_any g.col wh HG0.out.1.1 HG0.out.1.2).mono ?_
                    rintro e wi ⟨rfl, hb5⟩
                    have HSi := hidG (HSh.out.below hb5)
                    have HFi : Hid (Fr kb W3 wi) := HFh.out.trans (Fr.of hb5 (Nat.le_of_lt HSh.out.lt))
                    clear hb5 HSh HFh d0
                    have h21 := HIS.out.2.1
                    have h66 : (⟨#[98, 114, 97, 110, 99, 104]⟩ : ByteArray).size = 6 := rfl
                    go_wp2_with fail
                    refine (int_s kb sz0 _ (Lib.itoa g.col) ns0 _ _ wi HSi.out (by omega) (by omega)).mono ?_
                    rintro e wj ⟨rfl, hs, hf⟩
                    have HSj := hidG hs
                    have HFj : Hid (Fr kb W3 wj) := HFi.out.trans hf
                    obtain ⟨-, d1, -⟩ := HNB.out wj HFj.out
                    clear hs hf HSi HFi
                    go_wp2_with fail
                    refine (int_s kb sz0 _ g.pl ns0 _ _ wj HSj.out (by omega) hgp).mono ?_
                    rintro e wk ⟨rfl, hs, hf⟩
                    have HSk := hidG hs
                    have HFk : Hid (Fr kb W3 wk) := HFj.out.trans hf
                    clear hs hf HSj HFj d1
                    go_wp2_with fail
                    go_roundw
                    case rel => exact ⟨i + 1, by omega, by go_num, HFIN.out false wk (HQ.out) HSk.out, HF3.out.trans HFk.out⟩
                    case measure => simp [intOf]; omega
                  have y3 : decide (g.col < 0) = false := decide_eq_false hc2
                  by_cases hc3 : 0 < g.mu.length
                  · have y4 : decide (0 < (g.mu.length : Int)) = true := decide_eq_true (by omega)
                    have HQ : Hid (false = (ok5 && treeB f.tree i && (decide (0 ≤ g.col) && g.mu.isEmpty))) := by unfold Hid; rw [show g.mu.isEmpty = false by (cases h : g.mu with | nil => rw [h] at hc3; simp at hc3 | cons _ _ => rfl), Bool.and_false, Bool.and_false]
                    obtain ⟨W4, hW4⟩ : ∃ W4, W3.setCell ⟨kb, 1, none⟩ (.bool true) = W4 := ⟨_, rfl⟩
                    have HS4 := hidG (HWRONG.out W4 hW4.symm)
                    have HF4 : Hid (Fr kb W3 W4) := by unfold Hid; rw [← hW4]; exact (Fr.refl _ _).set _
                    have HW4 := hidG hW4
                    clear hW4
                    go_wp2_with (first | rw [HW3.out] | rw [HW4.out])
                    clear x0 x1 x2 x3 d0 d1 d2
                    refine (list_s kb 3 sz0 _ ns0 _ _ W4 HS4.out (by omega)).mono ?_
                    rintro e wg ⟨rfl, hs, hf⟩
                    have HSg := hidG hs
                    have HFg : Hid (Fr kb W3 wg) := HF4.out.trans hf
                    clear hs hf
                    go_wp2_with fail
                    refine (leaf_s kb sz0 _ 2 ⟨#[98, 114, 97, 110, 99, 104]⟩ ns0 _ _ wg HSg.out (by omega) (by decide) (by decide)).mono ?_
                    rintro e wh ⟨rfl, hs, hf⟩
                    have HSh := hidG hs
                    have HFh : Hid (Fr kb W3 wh) := HFg.out.trans hf
                    obtain ⟨d0, -, -⟩ := HNB.out wh HFh.out
                    clear hs hf HSg HFg
                    go_wp2_with fail
                    refine (l12Signed_any g.col wh HG0.out.1.1 HG0.out.1.2).mono ?_
                    rintro e wi ⟨rfl, hb5⟩
                    have HSi := hidG (HSh.out.below hb5)
                    have HFi : Hid (Fr kb W3 wi) := HFh.out.trans (Fr.of hb5 (Nat.le_of_lt HSh.out.lt))
                    clear hb5 HSh HFh d0
                    have h21 := HIS.out.2.1
                    have h66 : (⟨#[98, 114, 97, 110, 99, 104]⟩ : ByteArray).size = 6 := rfl
                    go_wp2_with fail
                    refine (int_s kb sz0 _ (Lib.itoa g.col) ns0 _ _ wi HSi.out (by omega) (by omega)).mono ?_
                    rintro e wj ⟨rfl, hs, hf⟩
                    have HSj := hidG hs
                    have HFj : Hid (Fr kb W3 wj) := HFi.out.trans hf
                    obtain ⟨-, d1, -⟩ := HNB.out wj HFj.out
                    clear hs hf HSi HFi
                    go_wp2_with fail
                    refine (int_s kb sz0 _ g.pl ns0 _ _ wj HSj.out (by omega) hgp).mono ?_
                    rintro e wk ⟨rfl, hs, hf⟩
                    have HSk := hidG hs
                    have HFk : Hid (Fr kb W3 wk) := HFj.out.trans hf
                    clear hs hf HSj HFj d1
                    go_wp2_with fail
                    go_roundw
                    case rel => exact ⟨i + 1, by omega, by go_num, HFIN.out false wk (HQ.out) HSk.out, HF3.out.trans HFk.out⟩
                    case measure => simp [intOf]; omega
                  have y4 : decide (0 < (g.mu.length : Int)) = false := decide_eq_false (by omega)
                  have HQ : Hid ((ok5 && treeB f.tree i) = (ok5 && treeB f.tree i && (decide (0 ≤ g.col) && g.mu.isEmpty))) := by unfold Hid; rw [decide_eq_true (show 0 ≤ g.col by omega), show g.mu.isEmpty = true by (rw [List.isEmpty_iff]; exact List.length_eq_zero_iff.1 (by omega)), Bool.and_true, Bool.and_true]
                  have HF4 : Hid (Fr kb W3 W3) := Fr.refl _ _
                  go_wp2_with (rw [HW3.out])
                  clear x0 x1 x2 x3 d0 d1 d2
                  refine (list_s kb 3 sz0 _ ns0 _ _ W3 HS3.out (by omega)).mono ?_
                  rintro e wg ⟨rfl, hs, hf⟩
                  have HSg := hidG hs
                  have HFg : Hid (Fr kb W3 wg) := HF4.out.trans hf
                  clear hs hf
                  go_wp2_with fail
                  refine (leaf_s kb sz0 _ 2 ⟨#[98, 114, 97, 110, 99, 104]⟩ ns0 _ _ wg HSg.out (by omega) (by decide) (by decide)).mono ?_
                  rintro e wh ⟨rfl, hs, hf⟩
                  have HSh := hidG hs
                  have HFh : Hid (Fr kb W3 wh) := HFg.out.trans hf
                  obtain ⟨d0, -, -⟩ := HNB.out wh HFh.out
                  clear hs hf HSg HFg
                  go_wp2_with fail
                  refine (l12Signed_any g.col wh HG0.out.1.1 HG0.out.1.2).mono ?_
                  rintro e wi ⟨rfl, hb5⟩
                  have HSi := hidG (HSh.out.below hb5)
                  have HFi : Hid (Fr kb W3 wi) := HFh.out.trans (Fr.of hb5 (Nat.le_of_lt HSh.out.lt))
                  clear hb5 HSh HFh d0
                  have h21 := HIS.out.2.1
                  have h66 : (⟨#[98, 114, 97, 110, 99, 104]⟩ : ByteArray).size = 6 := rfl
                  go_wp2_with fail
                  refine (int_s kb sz0 _ (Lib.itoa g.col) ns0 _ _ wi HSi.out (by omega) (by omega)).mono ?_
                  rintro e wj ⟨rfl, hs, hf⟩
                  have HSj := hidG hs
                  have HFj : Hid (Fr kb W3 wj) := HFi.out.trans hf
                  obtain ⟨-, d1, -⟩ := HNB.out wj HFj.out
                  clear hs hf HSi HFi
                  go_wp2_with fail
                  refine (int_s kb sz0 _ g.pl ns0 _ _ wj HSj.out (by omega) hgp).mono ?_
                  rintro e wk ⟨rfl, hs, hf⟩
                  have HSk := hidG hs
                  have HFk : Hid (Fr kb W3 wk) := HFj.out.trans hf
                  clear hs hf HSj HFj d1
                  go_wp2_with fail
                  go_roundw
                  case rel => exact ⟨i + 1, by omega, by go_num, HFIN.out (ok5 && treeB f.tree i) wk (HQ.out) HSk.out, HF3.out.trans HFk.out⟩
                  case measure => simp [intOf]; omega
              · have hie : i = f.tree.length := by omega
                subst hie
                have HDN : Hid (Done kb f ns0 sz0 wr) := by
                  refine done_end (bnd := 80000000 + sumT wt8 f.tree f.tree.length) ?_ (by omega)
                  have hS := HSR.out
                  rw [HEND.out.1] at hS
                  cases hk : lemOk f with
                  | false => rw [hk] at hS; exact hS.wrong
                  | true => rw [hk] at hS; rw [← HEND.out.2 hk]; exact hS
                clear hbw
                go_wp2_with fail
                exact bodyPost_end (results_none rfl _ _ _) rfl ⟨rfl, HDN.out, HA1.out.trans HFR.out⟩
end Go.Proofs.YtdphpfffofeklaaDoor.P
