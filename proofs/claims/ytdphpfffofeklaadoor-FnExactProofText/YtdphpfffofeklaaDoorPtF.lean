import Derived.Test.YtdphpfffofeklaaDoorPtE
import Derived.Deep.AppendLies
namespace Go.Proofs.YtdphpfffofeklaaDoor.P
open Go.ChangeShapes Go.WideShapes Go.ChangeAt Go.RowKit
open L (strOf strOf_toList strOf_size Tn hidG below_alloc Bx bx_new StrsAt strsC info_str strs_at row_below own_base own_lower own_other')
def lsT (l : List (List UInt8)) : List UInt8 := 40 :: (Lib.join l [32] ++ [41])
set_option maxHeartbeats 400000 in
theorem listText_any (v : Value) (L : List (List UInt8)) (w : World) (h : StrsAt w v L) (hlen : (Lib.join L [32]).length ≤ 140737488355328) (hn : L.length ≤ 140737488355328) :
    Calls Tryd.prog 31 #[v] w fun e w' => e = .returned (.string (strOf (lsT L))) ∧ Below w.heap.size w w' := by
  have H := hidG h
  obtain ⟨p, c, rfl, -, -, -⟩ := h
  obtain ⟨s, hs⟩ : ∃ s, strOf (Lib.join L [32]) = s := ⟨_, rfl⟩
  have hz : s.size ≤ 140737488355328 := by rw [← hs, strOf_size]; exact hlen
  have HS := hidG hs
  have HL := hidG hlen
  have HR : Hid (strOf (lsT L) = ⟨#[40]⟩ ++ s ++ ⟨#[41]⟩) := by
    unfold Hid lsT
    rw [← hs]
    apply ByteArray.ext
    simp [Go.Proofs.YtdphpfffofeklaaDoor.L.strOf]
  clear hs hlen
  go_enter Tryd.func31, Tryd.ntmps31
  go_wp2_with (go_at_call 45; refine (join_any _ L _ H.out HL.out hn).mono ?_; rintro e w1 ⟨rfl, hb⟩; rw [HS.out]; have HB := hidG hb; clear hb)
  go_ret
  rw [HR.out]
  exact ⟨rfl, HB.out⟩
/-- A text behind a row of texts. -/
theorem wpList_appS {ops : Array Oper} {rest : List Oper} {o : Oper} {a : Act} {Q : Exit → Act → World → Prop} {W : World} {t : ByteArray} {base n : Nat} {v : Value} {xs : List Value} (hgd : o.guard = none) (s y : Operand)
    (ho : o.op = .call { callee := .builtin .append, args := #[s, y], argTypes := #[63, 63] }) (hs : a.eval s = v) (hown : W.ownsRow base 9 1 v n xs)
    (H : Nat) (hx : a.eval y = .slice (some ⟨H, 0, none⟩) 1 1) (hH : W.heap.size = H) (hn : n ≤ 1000000000) (hbase : base ≤ W.heap.size)
    (h : ∀ g cap W', W'.ownsRow base 9 1 (.slice (some ⟨g, 0, none⟩) (n + 1) cap) (n + 1) (xs ++ [.string t]) → (W.alloc (.cells #[.string t] 9)).grownBy W' v.ownBlock → wpList Tryd.prog ops Q rest (a.put o.dst (.slice (some ⟨g, 0, none⟩) (n + 1) cap)) W') :
    wpList Tryd.prog ops Q (o :: rest) a (W.alloc (.cells #[.string t] 9)) := by
  subst hH
  obtain ⟨i0, hinf, hz0, hz1, hz2⟩ := info_str
  refine wpList_append_lies _ hgd s y 63 ho base 9 i0 (.string ⟨#[]⟩) 1 16 Tryd.underlying63 hinf hz0 hz1 hz2 rfl (by decide) v n xs hs (hown.alloc _) ⟨W.heap.size, 0, none⟩ 1 1 [.string t] hx rfl
    (World.news_of_block (cs := #[.string t]) (t := 9) (fr := (0, 0)) (heap_alloc_new W _)) (by simp [Value.oneCell']) (by decide) (by unfold maxLen; omega) (by omega) (by simp; omega) _ rfl ?_
  intro g cap W' h1 h2 _ _
  exact h g cap W' h1 h2
theorem below_grown {N n : Nat} {w W W' : World} {v : Value} {xs : List Value} {o : Obj} {e : TypeId} {z : Nat} (hB : Below N w W) (hown : W.ownsRow N e z v n xs) (hg : (W.alloc o).grownBy W' v.ownBlock) (h : N ≤ W.heap.size) : Below N w W' :=
  ⟨hg.os.trans hB.os, hg.tape.trans hB.tape, hg.output.trans hB.output, by
    have h1 := hg.size
    have h2 := hB.size
    rw [World.size_alloc] at h1
    omega, fun k hk => by
    rw [hg.block k (by rw [World.size_alloc]; omega) (fun e => by have := own_base hown k e.symm; omega), (below_alloc W o).block k (by omega), hB.block k hk]⟩
theorem snoc_strs {M : List (List UInt8)} {k : Nat} (h : k < M.length) : strsC (M.take (k + 1)) = strsC (M.take k) ++ [.string (strOf M[k])] := by
  rw [List.take_succ_eq_append_getElem h]
  unfold strsC
  rw [List.map_append]
  rfl
theorem own_sl {w : World} {base : Nat} {e : TypeId} {size : Nat} {v : Value} {n : Nat} {xs : List Value} (h : w.ownsRow base e size v n xs) : ∃ a c, v = .slice a n c := by
  rcases h.2 with ⟨rfl, rfl⟩ | ⟨g, cap, _, rfl, _⟩
  · exact ⟨_, _, rfl⟩
  · exact ⟨_, _, rfl⟩
def CK (k : Int) (L : List Int) : Prop := decide (0 ≤ k) = L.contains 0
theorem contains_yes {k : Int} {L : List Int} (h : 0 ≤ k) (hm : 0 ∈ L) : CK k L := by
  have e1 : decide (0 ≤ k) = true := decide_eq_true h
  have e2 : L.contains 0 = true := by simpa using hm
  unfold CK
  rw [e1, e2]
theorem contains_no {k : Int} {L : List Int} (h : ¬ 0 ≤ k) (hm : 0 ∉ L) : CK k L := by
  have e1 : decide (0 ≤ k) = false := decide_eq_false h
  have e2 : L.contains 0 = false := by simpa using hm
  unfold CK
  rw [e1, e2]
set_option maxRecDepth 100000 in
set_option maxHeartbeats 4000000 in
theorem index_any (v : Value) (L : List Int) (w : World) (h : IntsAt w v L) (hn : L.length ≤ 1048576) :
    Calls Tryd.prog 56 #[v, .int .i64 0] w fun e w' => (∃ k : Int, e = .returned (.int .i64 k) ∧ -1 ≤ k ∧ k ≤ 1048576 ∧ CK k L) ∧ w' = w := by
  obtain ⟨p, c, rfl, h1, h2, hA⟩ := h
  unfold maxLen at h2
  have HA := hidG hA
  clear hA
  go_enter Tryd.func56, Tryd.ntmps56
  go_wp2_with fail
  go_loop [8] (fun iv => ∃ i : Nat, i ≤ L.length ∧ iv = .int .i64 (i : Nat) ∧ (∀ j (h : j < L.length), j < i → L[j] ≠ 0)) (fun iv => L.length - (intOf iv).toNat)
  case atStart => exact ⟨0, Nat.zero_le _, rfl, fun j _ h => absurd h (Nat.not_lt_zero _)⟩
  case round =>
    obtain ⟨i, hi, rfl, hp⟩ := hrel
    have HP := hidG hp
    clear hp
    by_cases hlt : i < L.length
    · obtain ⟨b, rfl, hb, hc⟩ : ∃ b, p = some ⟨b, 0, none⟩ ∧ b < w.heap.size ∧ ∀ i (h : i < L.length), w.cell? ⟨b, i, none⟩ = some (.int .i64 L[i]) := by
        rcases HA.out with h | h
        · rw [h] at hlt; exact absurd hlt (Nat.not_lt_zero _)
        · exact h
      have k0 := hc i hlt
      obtain ⟨x, hx⟩ : ∃ x, L[i] = x := ⟨_, rfl⟩
      rw [hx] at k0
      have HX := hidG hx
      clear hc hx
      by_cases h0 : x = 0
      · subst h0
        go_wp2_with fail
        go_ret
        refine ⟨⟨(i : Int), rfl, by omega, by omega, ?_⟩, rfl⟩
        exact contains_yes (k := (i : Int)) (by omega) (by rw [← HX.out]; exact List.getElem_mem hlt)
      · have y : ((0 : Int) == x) = false := by rw [beq_eq_false_iff_ne]; exact fun e => h0 e.symm
        go_wp2_with fail
        go_round
        case rel => exact ⟨i + 1, by omega, by go_num, fun j hj hji => by
          by_cases e : j = i
          · subst e; rw [HX.out]; exact h0
          · exact HP.out j hj (by omega)⟩
        case measure => simp [intOf]; omega
    · go_wp2_with fail
      go_ret
      refine ⟨⟨-1, rfl, by omega, by omega, ?_⟩, rfl⟩
      refine contains_no (k := -1) (by omega) (fun h => ?_)
      obtain ⟨j, hj, e⟩ := List.getElem_of_mem h
      exact HP.out j hj (by omega) e
set_option maxHeartbeats 4000000 in
theorem contains_any (v : Value) (L : List Int) (w : World) (h : IntsAt w v L) (hn : L.length ≤ 1048576) :
    Calls Tryd.prog 43 #[v, .int .i64 0] w fun e w' => e = .returned (.bool (L.contains 0)) ∧ w' = w := by
  have H := hidG h
  obtain ⟨p, c, rfl, -, -, -⟩ := h
  go_enter Tryd.func43, Tryd.ntmps43
  go_wp2_with (go_at_call 56; refine (index_any _ L _ H.out hn).mono ?_; rintro e w' ⟨⟨k, rfl, k1, k2, HK⟩, rfl⟩)
  go_ret
  unfold CK at HK
  exact ⟨by rw [← HK]; rfl, rfl⟩
set_option maxRecDepth 100000 in
set_option maxHeartbeats 4000000 in
theorem litTexts_any (v : Value) (L : List Int) (w : World) (h : IntsAt w v L) (hr : ∀ x ∈ L, r64 x) (hn : L.length ≤ 1048576) (ht : Tb w) :
    Calls Tryd.prog 28 #[v] w fun e w' => ∃ sv, e = .returned (.tuple #[sv, .bool (!L.contains 0)]) ∧ (∃ p c, sv = .slice p L.length c) ∧ StrsAt w' sv (L.map (fun n => sgnT (Lib.itoa n))) ∧ Below w.heap.size w w' := by
  have H := hidG h
  have HR := hidG hr
  have HT := hidG ht
  obtain ⟨p, c, rfl, h1, h2, hA⟩ := h
  unfold maxLen at h2
  have HA := hidG hA
  obtain ⟨M, hM⟩ : ∃ M, L.map (fun n => sgnT (Lib.itoa n)) = M := ⟨_, rfl⟩
  have hML : M.length = L.length := by rw [← hM, List.length_map]
  have HMA : Hid (∀ i (h : i < L.length) (h' : i < M.length), M[i] = sgnT (Lib.itoa L[i])) := by subst hM; intro i h h'; rw [List.getElem_map]
  rw [hM]
  clear hA hr ht hM
  go_enter Tryd.func28, Tryd.ntmps28
  go_wp2_with fail
  go_loopw [2, 8] (fun vt iv wr => ∃ i : Nat, i ≤ L.length ∧ iv = .int .i64 (i : Nat) ∧ wr.ownsRow w.heap.size 9 1 vt i (strsC (M.take i)) ∧ Below w.heap.size w wr) (fun _ iv _ => L.length - (intOf iv).toNat)
  case atStart => exact ⟨0, Nat.zero_le _, rfl, World.ownsRow_nil _ _ _ _, Below.refl _ _⟩
  case round =>
    obtain ⟨i, hi, rfl, hown, hB⟩ := hrel
    obtain ⟨pt, ct, rfl⟩ := own_sl hown
    have HO := hidG hown
    have HB := hidG hB
    by_cases hlt : i < L.length
    · obtain ⟨b, rfl, hb, hc⟩ : ∃ b, p = some ⟨b, 0, none⟩ ∧ b < w.heap.size ∧ ∀ i (h : i < L.length), w.cell? ⟨b, i, none⟩ = some (.int .i64 L[i]) := by
        rcases HA.out with h | h
        · rw [h] at hlt; exact absurd hlt (Nat.not_lt_zero _)
        · exact h
      have k0 := hc i hlt
      rw [← hB.cell (p := ⟨b, i, none⟩) hb] at k0
      have hx0 := HR.out _ (List.getElem_mem hlt)
      have HSN : Hid (strsC (M.take (i + 1)) = strsC (M.take i) ++ [.string (strOf (sgnT (Lib.itoa L[i])))]) := by unfold Hid; rw [snoc_strs (by omega), HMA.out i hlt (by omega)]
      obtain ⟨x, hx⟩ : ∃ x, L[i] = x := ⟨_, rfl⟩
      rw [hx] at k0 hx0 HSN
      have HXX := hidG (itoa_isI x hx0.1 hx0.2).2.1
      have HX0 := hidG hx0
      clear hc hx hown hB hx0
      go_wp2_with (first
        | (go_at_call 42; refine (itoa_any x _ HX0.out.1 HX0.out.2 (HT.out.below HB.out)).mono ?_; rintro e w1 ⟨rfl, hb1⟩; have HB1 : Hid (Below w.heap.size w w1) := HB.out.trans (hb1.mono HB.out.size); have HO1 := hidG (row_below HO.out hb1); clear hb1)
        | (go_at_call 41; refine (signedText_any _ _ (by have := HXX.out; omega)).mono ?_; rintro e w2 ⟨rfl, rfl⟩)
        | (at_builtin; refine wpList_appS (t := strOf (sgnT (Lib.itoa x))) (n := i) (base := w.heap.size) (xs := strsC (M.take i)) rfl _ _ rfl rfl ?own _ rfl ?hH ?hn ?hb ?_))
      case own => exact HO1.out
      case hH => rfl
      case hn => omega
      case hb => exact HB1.out.size
      intro g5 c5 w5 hown5 hgr5
      have HB5 : Hid (Below w.heap.size w w5) := below_grown HB1.out HO1.out hgr5 HB1.out.size
      have HO5 := hidG hown5
      rw [← HSN.out] at HO5
      clear hown5 hgr5
      go_wp2_with fail
      go_roundw
      case rel => exact ⟨i + 1, by omega, by go_num, HO5.out, HB5.out⟩
      case measure => simp [intOf]; omega
    · have hie : i = L.length := by omega
      subst hie
      clear hown hB
      go_wp2_with (go_at_call 43; refine (contains_any _ L _ (H.out.below HB.out) hn).mono ?_; rintro e w1 ⟨rfl, rfl⟩)
      have ho := HO.out
      rw [List.take_of_length_le (by omega)] at ho
      refine bodyPost_ret (v := .tuple #[.slice pt L.length ct, .bool (!L.contains 0)]) ?_ rfl ⟨_, rfl, ⟨_, _, rfl⟩, strs_at (by rw [hML]; exact ho), HB.out⟩
      simp [results, Tryd.results28, go_sem]
end Go.Proofs.YtdphpfffofeklaaDoor.P
