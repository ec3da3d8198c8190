import Derived.Test.YtdngpnlbhadbpaaTkT
import Derived.Test.YtdngpnlbhadbpaaTkS
namespace Go.Proofs.Ytdngpnlbhadbpaa
open Go.ChangeShapes Go.WideShapes Go.ChangeAt Go.RowKit
theorem take_run_all (p : UInt8 → Bool) : ∀ l : List UInt8, (l.take (runL p l)).all p = true
  | [] => rfl
  | c :: r => by
    unfold runL
    by_cases h : p c = true
    · rw [if_pos h, List.take_succ_cons, List.all_cons, h, take_run_all p r]; rfl
    · rw [if_neg h]; rfl
set_option maxRecDepth 100000 in
set_option maxHeartbeats 4000000 in
theorem scanBits_hex (T U : ByteArray) (r : Nat) (w : World) (hs : T.size ≤ 50000) (hU : T.extract 2 (U.size + 2) = U) (hr : runL hexB U.data.toList = r) (hrl : r ≤ U.size) (hTU : T.size = U.size + 2) (hc : T[1]'(by omega) = 120) :
    Calls Try.prog 30 #[.string T] w fun e w' => (∃ k t n, BitsP (strOf (hexL (U.data.toList.take r))) r k t n ∧ e = resN k t n) ∧ Below w.heap.size w w' := by
  have HU := hidG hU
  have HR := hidG hr
  have y0 : (((T[1]'(by omega)).toNat : Int) == 98) = false := by rw [hc]; rfl
  have y1 : (((T[1]'(by omega)).toNat : Int) == 120) = true := by rw [hc]; rfl
  have hsz : (U.extract 0 r).size ≤ 50000 := by rw [ByteArray.size_extract]; omega
  have hvs : (U.extract 0 r).size = r := by rw [ByteArray.size_extract]; omega
  have hvl : (U.extract 0 r).data.toList = U.data.toList.take r := by rw [ext_list]; rfl
  have hva : (U.extract 0 r).data.toList.all hexB = true := by rw [hvl, ← hr]; exact take_run_all _ _
  obtain ⟨V, hV⟩ : ∃ V, U.extract 0 r = V := ⟨_, rfl⟩
  have HV := hidG hV
  rw [hV] at hsz hvs hvl hva
  have HVA := hidG hva
  obtain ⟨X, hX⟩ : ∃ X, strOf (hexL V.data.toList) = X := ⟨_, rfl⟩
  have HXX := hidG hX
  rw [← hvl, hX]
  clear hV hU hr hc hvl hva hX
  go_enter Try.func30, Try.ntmps30
  go_wp2_with (first | (go_at_call 28; rw [HU.out]; refine (runOf_hex _ _ (by unfold maxLen; omega)).mono ?_; rintro e w' ⟨rfl, rfl⟩; rw [HR.out]) | (go_at_call 44; rw [HV.out]; refine (binaryOf_ex _ _ hsz HVA.out).mono ?_; rintro e w1 ⟨rfl, hb1⟩; rw [HXX.out]; have hx := (bx_new w [.int .i64 0, .string ⟨#[]⟩, .int .i64 0, .int .i64 0] 35).below (N := w.heap.size + 1) (by omega) (hb1.mono (by simp)); have HX1 := hidG hx; have HB1 : Hid (Below w.heap.size w w1) := (below_alloc _ _).trans (hb1.mono (by simp)); have hs1 : w.heap.size + 1 ≤ w1.heap.size := (by have := hb1.size; simpa using this); clear hb1 hx) | (go_at_call 42; refine (bitsNode_x _ r _ (by omega)).mono ?_; rintro e w2 ⟨⟨k2, s2, n2, hk2, he⟩, hb2⟩; unfold resN at he; subst he; have HK2 := hidG hk2; clear hk2; have hx2 := HX1.out.below (N := w.heap.size + 1) (by omega) (hb2.mono hs1); have HX2 := hidG hx2; have HB2 : Hid (Below w.heap.size w w2) := HB1.out.trans (hb2.mono (by omega)); obtain ⟨c0, c1, c2, c3⟩ := hx2.c4; have f0 := hx2.frozen 0; have f1 := hx2.frozen 1; have f2 := hx2.frozen 2; have f3 := hx2.frozen 3; clear hb2 hx2))
  have hx4 := ((((HX2.out.set 0 (.int .i64 k2)).set 1 (.string s2)).set 2 (.int .i64 0)).set 3 (.int .i64 0))
  obtain ⟨e0, e1, e2, e3⟩ := hx4.c4
  refine bodyPost_ret (v := .tuple #[.agg #[.int .i64 k2, .string s2, .int .i64 0, .int .i64 0], .int .i64 (n2 : Nat)]) ?_ rfl ⟨⟨k2, s2, n2, HK2.out, rfl⟩, ?_⟩
  · clear c0 c1 c2 c3 f0 f1 f2 f3
    simp [results, Try.results30, go_sem, e0, e1, e2, e3]
  · exact (((HB2.out.setCell (p := ⟨w.heap.size, 0, none⟩) (Nat.le_refl _) _).setCell (p := ⟨w.heap.size, 1, none⟩) (Nat.le_refl _) _).setCell (p := ⟨w.heap.size, 2, none⟩) (Nat.le_refl _) _).setCell (p := ⟨w.heap.size, 3, none⟩) (Nat.le_refl _) _
theorem bitsP_implR {s : List UInt8} {r : Nat} {k : Int} {t : ByteArray} {n : Nat} {u : List UInt8} (h : BitsP (strOf s) r k t n) (hu : bitsL u = if r = 0 then none else some (5, s, 2 + r)) : resN k t n = implR (bitsL u) := by
  rw [hu]
  rcases h with ⟨h0, rfl, rfl, rfl⟩ | ⟨h0, rfl, rfl, rfl⟩
  · rw [if_pos h0]; rfl
  · rw [if_neg (by omega)]; rfl
theorem tail_ex (T : ByteArray) (a : Nat) (h : a ≤ T.size) : ∃ U : ByteArray, T.extract a (U.size + a) = U ∧ T.size = U.size + a ∧ U.data.toList = T.data.toList.drop a := by
  refine ⟨strOf (T.data.toList.drop a), ?_⟩
  have hl : (strOf (T.data.toList.drop a)).data.toList = T.data.toList.drop a := strOf_toList _
  have hsz : (strOf (T.data.toList.drop a)).size = T.size - a := by rw [Lib.size_eq, hl, List.length_drop, ← Lib.size_eq]
  refine ⟨?_, by omega, hl⟩
  apply ba_eq
  rw [ext_list, hl, hsz, List.take_of_length_le (by rw [← Lib.size_eq]; omega)]
theorem scanBits_any (T : ByteArray) (w : World) (hs : T.size ≤ 50000) (h0 : 0 < T.size) :
    Calls Try.prog 30 #[.string T] w fun e w' => e = implR (bitsL (T.data.toList.drop 1)) ∧ Below w.heap.size w w' := by
  by_cases h2 : T.size < 2
  · refine (scanBits_short T w h2).mono ?_
    rintro e w' ⟨rfl, hb⟩
    refine ⟨?_, hb⟩
    rw [drop_end (by omega)]; rfl
  have h1 : 1 < T.size := by omega
  rw [drop_at h1]
  obtain ⟨U, hU1, hU2, hU3⟩ := tail_ex T 2 (by omega)
  rw [← hU3]
  by_cases hb : T[1].toNat = 98
  · refine (scanBits_b T U _ w hs hU1 rfl (by have := runL_le bitB U.data.toList; rw [← Lib.size_eq] at this; exact this) hU2 (by rw [u8_is (d := 98) hb])).mono ?_
    rintro e w' ⟨⟨k, t, n, hp, rfl⟩, hbe⟩
    refine ⟨bitsP_implR (s := U.data.toList.take (runL bitB U.data.toList)) ?_ (bitsL_b hb), hbe⟩
    have := ext_drop U 0 (runL bitB U.data.toList)
    rw [Nat.zero_add, List.drop_zero] at this
    rw [← this]; exact hp
  by_cases hx : T[1].toNat = 120
  · refine (scanBits_hex T U _ w hs hU1 rfl (by have := runL_le hexB U.data.toList; rw [← Lib.size_eq] at this; exact this) hU2 (by rw [u8_is (d := 120) hx])).mono ?_
    rintro e w' ⟨⟨k, t, n, hp, rfl⟩, hbe⟩
    exact ⟨bitsP_implR hp (bitsL_x hx), hbe⟩
  · refine (scanBits_other T w (by omega) hs hb hx).mono ?_
    rintro e w' ⟨rfl, hbe⟩
    refine ⟨?_, hbe⟩
    rw [bitsL_n hb hx]; rfl
theorem ext_0 (T : ByteArray) (r : Nat) : T.extract 0 r = strOf (T.data.toList.take r) := by
  have := ext_drop T 0 r
  rw [Nat.zero_add, List.drop_zero] at this
  exact this
theorem tokN_endT {T : ByteArray} (h0 : 0 < T.size) (h : runL dg T.data.toList = T.size) (h1 : ¬ (1 < T.size ∧ T[0].toNat = 48)) : tokN T.data.toList = (3, T.size) := by
  unfold tokN
  rw [h, if_neg, if_neg]
  · unfold partL; rw [drop_end (by omega)]; simp
  · rintro ⟨h2, h3⟩
    rw [head_at h0] at h3
    exact h1 ⟨h2, by rw [Option.some.inj h3]; rfl⟩
theorem tokN_neT {T : ByteArray} {k : Nat} (h0 : 0 < T.size) (_hk : k < T.size) (h : runL dg T.data.toList = k) (h1 : ¬ (1 < k ∧ T[0].toNat = 48)) (hp : partL T.data.toList k = 0) : tokN T.data.toList = (3, k) := by
  unfold tokN
  rw [h, if_neg, if_neg (by omega)]
  rintro ⟨h2, h3⟩
  rw [head_at h0] at h3
  exact h1 ⟨h2, by rw [Option.some.inj h3]; rfl⟩
theorem tokN_decT {T : ByteArray} {k m : Nat} (h0 : 0 < T.size) (_hk : k < T.size) (h : runL dg T.data.toList = k) (h1 : ¬ (1 < k ∧ T[0].toNat = 48)) (hp : partL T.data.toList k = m) (hm : 0 < m) : tokN T.data.toList = (4, k + 1 + m) := by
  unfold tokN
  rw [h, if_neg, hp, if_pos hm]
  rintro ⟨h2, h3⟩
  rw [head_at h0] at h3
  exact h1 ⟨h2, by rw [Option.some.inj h3]; rfl⟩
def numI (T : ByteArray) : Option (Int × List UInt8 × Nat) := if (tokN T.data.toList).1 = 0 then none else some ((tokN T.data.toList).1, T.data.toList.take (tokN T.data.toList).2, (tokN T.data.toList).2)
theorem numI_of {T : ByteArray} {c : Int} {n : Nat} (h : tokN T.data.toList = (c, n)) (hc : c ≠ 0) : resN c (T.extract 0 n) n = implR (numI T) := by
  unfold numI; rw [h]; simp only; rw [if_neg hc, ext_0]; rfl
theorem scanNumber_any (T : ByteArray) (w : World) (hs : T.size ≤ 50000) (h0 : 0 < T.size) (hd : dg T[0] = true) :
    Calls Try.prog 31 #[.string T] w fun e w' => e = implR (numI T) ∧ Below w.heap.size w w' := by
  have hk0 := runL_pos h0 hd
  have hkl := runL_le dg T.data.toList
  rw [← Lib.size_eq] at hkl
  obtain ⟨k, hk⟩ : ∃ k, runL dg T.data.toList = k := ⟨_, rfl⟩
  rw [hk] at hk0 hkl
  by_cases h1 : 1 < k ∧ T[0].toNat = 48
  · refine (scanNumber_0 T k w hs hk h1.1 h0 h1.2).mono ?_
    rintro e w' ⟨rfl, hb⟩
    refine ⟨?_, hb⟩
    have : tokN T.data.toList = (0, 0) := by
      unfold tokN; rw [hk, if_pos ⟨h1.1, by rw [head_at h0, u8_is (d := 48) h1.2]⟩]
    unfold numI; rw [this]; rfl
  by_cases he : k = T.size
  · subst he
    refine (scanNumber_end T w hs hk h0 h1).mono ?_
    rintro e w' ⟨rfl, hb⟩
    refine ⟨?_, hb⟩
    have := numI_of (tokN_endT h0 hk h1) (by decide)
    rw [ext_all] at this; exact this
  have hlt : k < T.size := by omega
  by_cases hp : T[k].toNat = 46
  · obtain ⟨U, hU1, hU2, hU3⟩ := tail_ex T (k + 1) (by omega)
    have hU1' : T.extract (k + 1) T.size = U := by rw [hU2]; exact hU1
    have hpart : partL T.data.toList k = runL dg U.data.toList := by
      unfold partL; rw [drop_at hlt, hU3]; simp only; rw [if_pos (u8_is (d := 46) hp)]
    by_cases hm : runL dg U.data.toList = 0
    · refine (scanNumber_pt T k U w hs hk hk0 h1 hlt hp hU1' hm).mono ?_
      rintro e w' ⟨rfl, hb⟩
      exact ⟨numI_of (tokN_neT h0 hlt hk h1 (by rw [hpart, hm])) (by decide), hb⟩
    · refine (scanNumber_dec T k U _ w hs hk hk0 h1 hlt hp hU1' rfl (by omega)).mono ?_
      rintro e w' ⟨rfl, hb⟩
      exact ⟨numI_of (tokN_decT h0 hlt hk h1 hpart (by omega)) (by decide), hb⟩
  · refine (scanNumber_other T k w hs hk hk0 h1 hlt hp).mono ?_
    rintro e w' ⟨rfl, hb⟩
    refine ⟨numI_of (tokN_neT h0 hlt hk h1 ?_) (by decide), hb⟩
    unfold partL; rw [drop_at hlt]; simp only; rw [if_neg]
    intro e; apply hp; rw [e]; rfl
theorem implR_form (o : Option (Int × List UInt8 × Nat)) : ∃ k t n, implR o = resN k t n := by
  cases o with
  | none => exact ⟨_, _, _, rfl⟩
  | some x => exact ⟨_, _, _, rfl⟩
theorem by_implR {f : Nat} {T : ByteArray} {o : Option (Int × List UInt8 × Nat)} (h : ∀ w, Calls Try.prog f #[.string T] w fun e w' => e = implR o ∧ Below w.heap.size w w') : ∀ w, Calls Try.prog f #[.string T] w fun e w' => (∃ k t n, resN k t n = implR o ∧ e = resN k t n) ∧ Below w.heap.size w w' := fun w => by
  refine (h w).mono ?_
  rintro e w' ⟨rfl, hb⟩
  obtain ⟨k, t, n, hf⟩ := implR_form o
  exact ⟨⟨k, t, n, hf.symm, hf⟩, hb⟩
theorem to_implR {f : Nat} {q : Int} {T : ByteArray} {o : Option (Int × List UInt8 × Nat)} {w : World} (h : Calls Try.prog f #[.int .i64 q, .string T] w fun e w' => (∃ k t n, resN k t n = implR o ∧ e = resN k t n) ∧ Below w.heap.size w w') : Calls Try.prog f #[.int .i64 q, .string T] w fun e w' => e = implR o ∧ Below w.heap.size w w' := by
  refine h.mono ?_
  rintro e w' ⟨⟨k, t, n, hf, rfl⟩, hb⟩
  exact ⟨hf, hb⟩
theorem scanBarred_any (T : ByteArray) (w : World) (hs : T.size ≤ 50000) (h0 : 0 < T.size) :
    Calls Try.prog 27 #[.string T] w fun e w' => e = implR (if (T.data.toList.drop 1)[runL barB (T.data.toList.drop 1)]? = some 124 then some (2, (T.data.toList.drop 1).take (runL barB (T.data.toList.drop 1)), runL barB (T.data.toList.drop 1) + 2) else none) ∧ Below w.heap.size w w' := by
  obtain ⟨U, hU1, hU2, hU3⟩ := tail_ex T 1 (by omega)
  rw [← hU3]
  obtain ⟨r, hr⟩ : ∃ r, runL barB U.data.toList = r := ⟨_, rfl⟩
  have hrl := runL_le barB U.data.toList
  rw [← Lib.size_eq, hr] at hrl
  rw [hr]
  have hx : U.data.toList[r]? = T.data.toList[1 + r]? := by rw [hU3, List.getElem?_drop]
  by_cases he : r = U.size
  · refine (scanBarred_end T U w hs hU1 (by rw [hr, he]) hU2).mono ?_
    rintro e w' ⟨rfl, hb⟩
    refine ⟨?_, hb⟩
    rw [if_neg]
    · rfl
    · rw [List.getElem?_eq_none (by rw [← Lib.size_eq]; omega)]; simp
  have hlt : r < U.size := by omega
  have h1 : 1 + r < T.size := by omega
  rw [hx, at_list h1]
  by_cases hc : T[1 + r].toNat = 124
  · refine (scanBarred_yes T U r w hs hU1 hr hlt hU2 (by rw [u8_is (d := 124) hc])).mono ?_
    rintro e w' ⟨rfl, hb⟩
    refine ⟨?_, hb⟩
    rw [if_pos (by rw [u8_is (d := 124) hc]), ext_drop, ← hU3]
    show resN _ _ _ = resN _ _ (r + 2)
    rw [show r + 2 = 1 + r + 1 by omega]
  · refine (scanBarred_no T U r w hs hU1 hr hlt hU2 hc).mono ?_
    rintro e w' ⟨rfl, hb⟩
    refine ⟨?_, hb⟩
    rw [if_neg]
    · rfl
    · intro e; apply hc; rw [Option.some.inj e]; rfl
theorem scanNode_any (T : ByteArray) (w : World) (hs : T.size ≤ 50000) (h0 : 0 < T.size) (hb : blankB T[0] = false) (h59 : T[0].toNat ≠ 59) (h41 : T[0].toNat ≠ 41) :
    Calls Try.prog 14 #[.int .i64 (tokB T[0]), .string T] w fun e w' => e = implR (nodeL T.data.toList) ∧ Below w.heap.size w w' := by
  have hd : T.data.toList = T[0] :: T.data.toList.drop 1 := by have := drop_at h0; rw [List.drop_zero] at this; exact this
  have hb' : ¬ (T[0].toNat = 32 ∨ T[0].toNat = 9 ∨ T[0].toNat = 10 ∨ T[0].toNat = 13) := by
    unfold blankB at hb
    simp only [Bool.or_eq_false_iff, decide_eq_false_iff_not] at hb
    omega
  by_cases h40 : T[0].toNat = 40
  · have ht : tokB T[0] = 4 := by unfold tokB; rw [if_neg hb', if_neg h59, if_neg h41, if_pos h40]
    rw [ht]
    refine (scanNode_open T w).mono ?_
    rintro e w' ⟨rfl, hb⟩
    refine ⟨?_, hb⟩
    unfold nodeL
    rw [if_pos (by rw [head_at h0, u8_is (d := 40) h40])]; rfl
  have hnl : nodeL T.data.toList = tokL T.data.toList := by
    unfold nodeL
    rw [if_neg]
    rw [head_at h0]; intro e; apply h40; rw [Option.some.inj e]; rfl
  rw [hnl]
  by_cases h34 : T[0].toNat = 34
  · have ht : tokB T[0] = 5 := by unfold tokB; rw [if_neg hb', if_neg h59, if_neg h41, if_neg h40, if_pos h34]
    have htl : tokL T.data.toList = (scanT (T.data.toList.drop 1)).map (fun x => (6, x.1, x.2 + 1)) := by
      rw [hd]; unfold tokL; simp only; rw [if_pos h34]; rfl
    rw [ht, htl]
    refine to_implR (scanNode_scanText T _ w (by_implR fun w => ?_))
    refine (scanText_any T w hs h0).mono ?_
    rintro e w' ⟨rfl, hbe⟩
    refine ⟨?_, hbe⟩
    cases scanT (T.data.toList.drop 1) <;> rfl
  by_cases h124 : T[0].toNat = 124
  · have ht : tokB T[0] = 6 := by unfold tokB; rw [if_neg hb', if_neg h59, if_neg h41, if_neg h40, if_neg h34, if_pos h124]
    have htl : tokL T.data.toList = if (T.data.toList.drop 1)[runL barB (T.data.toList.drop 1)]? = some 124 then some (2, (T.data.toList.drop 1).take (runL barB (T.data.toList.drop 1)), runL barB (T.data.toList.drop 1) + 2) else none := by
      rw [hd]; unfold tokL; simp only; rw [if_neg h34, if_pos h124]; rfl
    rw [ht, htl]
    exact to_implR (scanNode_scanBarred T _ w (by_implR fun w => scanBarred_any T w hs h0))
  by_cases h58 : T[0].toNat = 58
  · have ht : tokB T[0] = 7 := by unfold tokB; rw [if_neg hb', if_neg h59, if_neg h41, if_neg h40, if_neg h34, if_neg h124, if_pos h58]
    obtain ⟨U, hU1, hU2, hU3⟩ := tail_ex T 1 (by omega)
    obtain ⟨r, hr⟩ : ∃ r, runL nameB U.data.toList = r := ⟨_, rfl⟩
    have hrl := runL_le nameB U.data.toList
    rw [← Lib.size_eq, hr] at hrl
    have htl : tokL T.data.toList = if r = 0 then none else some (7, U.data.toList.take r, r + 1) := by
      rw [hd]; unfold tokL; simp only; rw [if_neg h34, if_neg h124, if_pos h58, ← hU3, hr]
    rw [ht, htl]
    by_cases hr0 : r = 0
    · refine (scanNode_key0 T U w h0 hs hU1 (by rw [hr, hr0]) hU2).mono ?_
      rintro e w' ⟨rfl, hbe⟩
      refine ⟨?_, hbe⟩
      rw [if_pos hr0]; rfl
    · refine (scanNode_key T U r w h0 hs hU1 hr (by omega) hrl hU2).mono ?_
      rintro e w' ⟨rfl, hbe⟩
      refine ⟨?_, hbe⟩
      rw [if_neg hr0, ext_drop, ← hU3]
      show resN _ _ _ = resN _ _ (r + 1)
      rw [Nat.add_comm r 1]
  by_cases h35 : T[0].toNat = 35
  · have ht : tokB T[0] = 8 := by unfold tokB; rw [if_neg hb', if_neg h59, if_neg h41, if_neg h40, if_neg h34, if_neg h124, if_neg h58, if_pos h35]
    have htl : tokL T.data.toList = bitsL (T.data.toList.drop 1) := by
      rw [hd]; unfold tokL; simp only; rw [if_neg h34, if_neg h124, if_neg h58, if_pos h35]; rfl
    rw [ht, htl]
    exact to_implR (scanNode_scanBits T _ w (by_implR fun w => scanBits_any T w hs h0))
  by_cases hg : dg T[0] = true
  · have ht : tokB T[0] = 9 := tokB_dg hg
    have htl : tokL T.data.toList = numI T := by
      unfold numI; rw [hd]; unfold tokL; simp only; rw [if_neg h34, if_neg h124, if_neg h58, if_neg h35, if_pos hg]
    rw [ht, htl]
    exact to_implR (scanNode_scanNumber T _ w (by_implR fun w => scanNumber_any T w hs h0 hg))
  have hg' : dg T[0] = false := by simpa using hg
  by_cases hn : nameB T[0] = true
  · have ht : tokB T[0] = 10 := tokB_name hn hg'
    have htl : tokL T.data.toList = some (2, T.data.toList.take (runL nameB T.data.toList), runL nameB T.data.toList) := by
      rw [hd]; unfold tokL; simp only; rw [if_neg h34, if_neg h124, if_neg h58, if_neg h35, if_neg hg, if_pos hn]
    have hrl := runL_le nameB T.data.toList
    rw [← Lib.size_eq] at hrl
    rw [ht, htl]
    refine (scanNode_name T _ w hs rfl hrl).mono ?_
    rintro e w' ⟨rfl, hbe⟩
    refine ⟨?_, hbe⟩
    rw [ext_0]; rfl
  · have hn' : nameB T[0] = false := by simpa using hn
    have ht : tokB T[0] = 0 := by unfold tokB; rw [if_neg hb', if_neg h59, if_neg h41, if_neg h40, if_neg h34, if_neg h124, if_neg h58, if_neg h35, hg', hn']; rfl
    have htl : tokL T.data.toList = none := by
      rw [hd]; unfold tokL; simp only; rw [if_neg h34, if_neg h124, if_neg h58, if_neg h35, if_neg hg, if_neg hn]
    rw [ht, htl]
    refine (scanNode_none T w).mono ?_
    rintro e w' ⟨rfl, hbe⟩
    exact ⟨rfl, hbe⟩
end Go.Proofs.Ytdngpnlbhadbpaa
