import Derived.Test.YtdngpnlbhadbpaaTkJ
import Derived.Test.YtdngpnlbhadbpaaTkD
import Derived.Test.YtdngpnlbhadbpaaTkM
namespace Go.Proofs.Ytdngpnlbhadbpaa
open Go.ChangeShapes Go.WideShapes Go.ChangeAt Go.RowKit
set_option maxRecDepth 100000 in
set_option maxHeartbeats 4000000 in
theorem l3Token_sharp (s t : ByteArray) (i n : Nat) (k : Int) (w : World) (_hs : s.size ≤ 20000) (hi : i < s.size) (hd : s[i].toNat = 35)
    (H : Hid (∀ w, Calls Try.prog 21 #[.string s, .int .i64 (i : Nat)] w fun e w' => e = resK k t n ∧ Below w.heap.size w w')) :
    Calls Try.prog 10 #[.string s, .int .i64 (i : Nat)] w fun e w' => e = resK k t n ∧ Below w.heap.size w w' := by
  have z1 : ((s[i].toNat : Int) == 34) = false := by rw [beq_eq_false_iff_ne]; omega
  have z2 : ((s[i].toNat : Int) == 124) = false := by rw [beq_eq_false_iff_ne]; omega
  have z3 : ((s[i].toNat : Int) == 58) = false := by rw [beq_eq_false_iff_ne]; omega
  have z4 : ((s[i].toNat : Int) == 35) = true := by rw [beq_iff_eq]; omega
  clear hd
  go_enter Try.func10, Try.ntmps10
  go_wp2_with (go_at_call 21; refine (H.out _).mono ?_; rintro e w2 ⟨he, hb2⟩; unfold resK at he; subst he; have hx2 := (bx_new w [.int .i64 0, .string ⟨#[]⟩, .int .i64 0] 32).below (N := w.heap.size + 1) (by omega) (hb2.mono (by simp)); have HX := hidG hx2; have HB : Hid (Below w.heap.size w w2) := (below_alloc w _).trans (hb2.mono (by simp)); obtain ⟨c0, c1, c2⟩ := hx2.c3; have f0 := hx2.frozen 0; have f1 := hx2.frozen 1; have f2 := hx2.frozen 2; clear hb2 hx2)
  have hx4 := (((HX.out.set 0 (.int .i64 k)).set 1 (.string t)).set 2 (.int .i64 (n : Nat)))
  obtain ⟨e0, e1, e2⟩ := hx4.c3
  refine bodyPost_ret (v := .agg #[.int .i64 k, .string t, .int .i64 (n : Nat)]) ?_ rfl ⟨rfl, ?_⟩
  · clear c0 c1 c2 f0 f1 f2
    simp [results, Try.results10, go_sem, e0, e1, e2]
  · exact (((HB.out.setCell (p := ⟨w.heap.size, 0, none⟩) (Nat.le_refl _) _).setCell (p := ⟨w.heap.size, 1, none⟩) (Nat.le_refl _) _).setCell (p := ⟨w.heap.size, 2, none⟩) (Nat.le_refl _) _)
theorem specR_some {o : Option (Int × List UInt8 × Nat)} {k : Int} {t : List UInt8} {n i m : Nat} (h : o = some (k, t, n)) (e : m = i + n) : resK k (strOf t) m = specR o i := by rw [h, e]; rfl
theorem specR_none {o : Option (Int × List UInt8 × Nat)} {i : Nat} (h : o = none) : resK 0 ⟨#[]⟩ 0 = specR o i := by rw [h]; rfl
theorem bitsL_b {d : UInt8} {v : List UInt8} (h : d.toNat = 98) : bitsL (d :: v) = if runL bitB v = 0 then none else some (5, v.take (runL bitB v), 2 + runL bitB v) := by
  unfold bitsL; simp only; rw [if_pos h]
theorem bitsL_x {d : UInt8} {v : List UInt8} (h : d.toNat = 120) : bitsL (d :: v) = if runL hexB v = 0 then none else some (5, hexL (v.take (runL hexB v)), 2 + runL hexB v) := by
  unfold bitsL; simp only; rw [if_neg (by omega), if_pos h]
theorem bitsL_n {d : UInt8} {v : List UInt8} (h : d.toNat ≠ 98) (h2 : d.toNat ≠ 120) : bitsL (d :: v) = none := by
  unfold bitsL; simp only; rw [if_neg h, if_neg h2]
theorem take_nil_iff {l : List UInt8} {r : Nat} (h : r ≤ l.length) : (l.take r).isEmpty = decide (r = 0) := by
  cases r with
  | zero => rfl
  | succ r => cases l with
    | nil => simp at h
    | cons a b => rfl
theorem hexL_nil_iff (l : List UInt8) : (hexL l).isEmpty = l.isEmpty := by cases l <;> rfl
theorem bitR_specR {u : List UInt8} {i n : Nat} {l : List UInt8} {r : Nat} (hl : l.isEmpty = decide (r = 0)) (h : bitsL u = if r = 0 then none else some (5, l, 2 + r)) (e : n = i + 2 + r) : bitR l n = specR (bitsL u) i := by
  rw [h]
  unfold bitR
  rw [hl]
  by_cases h0 : r = 0
  · rw [if_pos h0, decide_eq_true h0, if_pos rfl]; rfl
  · rw [if_neg h0, decide_eq_false h0, if_neg (by decide)]; subst e
    show resK 5 (strOf l) (i + 2 + r) = resK 5 (strOf l) (i + (2 + r))
    rw [Nat.add_assoc]
theorem specR_form (o : Option (Int × List UInt8 × Nat)) (i : Nat) : ∃ k t n, specR o i = resK k t n := by
  cases o with
  | none => exact ⟨_, _, _, rfl⟩
  | some x => exact ⟨_, _, _, rfl⟩
theorem l3Bits_any (s : ByteArray) (i : Nat) (w : World) (hs : s.size ≤ 20000) (hi : i < s.size) :
    Calls Try.prog 21 #[.string s, .int .i64 (i : Nat)] w fun e w' => e = specR (bitsL (s.data.toList.drop (i + 1))) i ∧ Below w.heap.size w w' := by
  by_cases h2 : s.size ≤ i + 2
  · refine (l3Bits_short s i w hs hi h2).mono ?_
    rintro e w' ⟨rfl, hb⟩
    refine ⟨specR_none ?_, hb⟩
    by_cases h1 : i + 1 < s.size
    · rw [drop_at h1, drop_end (by omega)]
      unfold bitsL
      simp only [runL, if_true]
      split
      · rfl
      · split <;> rfl
    · rw [drop_end h1]; rfl
  · have h1 : i + 1 < s.size := by omega
    rw [drop_at h1]
    by_cases hb : s[i + 1].toNat = 98
    · refine (l3Bits_b s i _ w hs (by omega) hb rfl).mono ?_
      rintro e w' ⟨rfl, hbe⟩
      exact ⟨bitR_specR (take_nil_iff (runL_le _ _)) (bitsL_b hb) rfl, hbe⟩
    by_cases hx : s[i + 1].toNat = 120
    · refine (l3Bits_x s i _ w hs (by omega) hx rfl).mono ?_
      rintro e w' ⟨rfl, hbe⟩
      exact ⟨bitR_specR (by rw [hexL_nil_iff]; exact take_nil_iff (runL_le _ _)) (bitsL_x hx) rfl, hbe⟩
    · refine (l3Bits_other s i w hs (by omega) hb hx).mono ?_
      rintro e w' ⟨rfl, hbe⟩
      exact ⟨specR_none (bitsL_n hb hx), hbe⟩
theorem nat_u8 {c : UInt8} {n : Nat} (hn : n < 256) : c.toNat = n ↔ c = UInt8.ofNat n := by
  constructor
  · intro h; apply UInt8.toNat_inj.1; rw [h]; simp; omega
  · rintro rfl; simp; omega
theorem l3Token_any (s : ByteArray) (i : Nat) (w : World) (hs : s.size ≤ 20000) (hi : i < s.size) :
    Calls Try.prog 10 #[.string s, .int .i64 (i : Nat)] w fun e w' => e = specR (tokL (s.data.toList.drop i)) i ∧ Below w.heap.size w w' := by
  have hd := drop_at hi
  by_cases h34 : s[i].toNat = 34
  · refine (l3Token_text s i w hs hi h34).mono ?_
    rintro e w' ⟨rfl, hb⟩
    refine ⟨?_, hb⟩
    have : tokL (s.data.toList.drop i) = (scanT (s.data.toList.drop (i + 1))).map (fun x => (6, x.1, x.2 + 1)) := by
      rw [hd]; unfold tokL; simp only; rw [if_pos h34]
    rw [this]
    cases scanT (s.data.toList.drop (i + 1)) with
    | none => rfl
    | some x =>
      show resK 6 (strOf x.1) (i + 1 + x.2) = resK 6 (strOf x.1) (i + (x.2 + 1))
      rw [show i + 1 + x.2 = i + (x.2 + 1) by omega]
  by_cases h124 : s[i].toNat = 124
  · refine (l3Token_bar s i _ w hs hi h124 rfl).mono ?_
    rintro e w' ⟨rfl, hb⟩
    refine ⟨?_, hb⟩
    obtain ⟨r, hr⟩ : ∃ r, runL barB (s.data.toList.drop (i + 1)) = r := ⟨_, rfl⟩
    have ht : tokL (s.data.toList.drop i) = if (s.data.toList.drop (i + 1))[r]? = some 124 then some (2, (s.data.toList.drop (i + 1)).take r, r + 2) else none := by
      rw [hd]; unfold tokL; simp only; rw [if_neg h34, if_pos h124, hr]
    have hx : (s.data.toList.drop (i + 1))[r]? = s.data.toList[i + 1 + r]? := by rw [List.getElem?_drop]
    rw [hr, ht, hx]
    unfold barR
    by_cases hc : ∃ h : i + 1 + r < s.size, s[i + 1 + r].toNat = 124
    · rw [if_pos hc]
      obtain ⟨h1, h2⟩ := hc
      rw [if_pos (by rw [at_list h1, (nat_u8 (by decide)).1 h2]; rfl), ext_drop]
      show resK _ _ _ = resK _ _ (i + (r + 2))
      rw [show i + 1 + r + 1 = i + (r + 2) by omega]
    · rw [if_neg hc, if_neg]
      · rfl
      · intro h
        obtain ⟨h1, h2⟩ := List.getElem?_eq_some_iff.1 h
        have h1' : i + 1 + r < s.size := by rw [Lib.size_eq]; exact h1
        exact hc ⟨h1', by rw [show s[i + 1 + r] = 124 from h2]; rfl⟩
  by_cases h58 : s[i].toNat = 58
  · refine (l3Token_key s i _ w hs hi h58 rfl).mono ?_
    rintro e w' ⟨rfl, hb⟩
    refine ⟨?_, hb⟩
    obtain ⟨r, hr⟩ : ∃ r, runL nameB (s.data.toList.drop (i + 1)) = r := ⟨_, rfl⟩
    have ht : tokL (s.data.toList.drop i) = if r = 0 then none else some (7, (s.data.toList.drop (i + 1)).take r, r + 1) := by
      rw [hd]; unfold tokL; simp only; rw [if_neg h34, if_neg h124, if_pos h58, hr]
    rw [hr, ht]
    unfold keyR
    by_cases h0 : r = 0
    · rw [if_pos h0, if_pos h0]; rfl
    · rw [if_neg h0, if_neg h0, ext_drop]
      show resK _ _ _ = resK _ _ (i + (r + 1))
      rw [show i + 1 + r = i + (r + 1) by omega]
  by_cases h35 : s[i].toNat = 35
  · have ht : tokL (s.data.toList.drop i) = bitsL (s.data.toList.drop (i + 1)) := by
      rw [hd]; unfold tokL; simp only; rw [if_neg h34, if_neg h124, if_neg h58, if_pos h35]
    rw [ht]
    obtain ⟨k, t, n, hf⟩ := specR_form (bitsL (s.data.toList.drop (i + 1))) i
    rw [hf]
    exact l3Token_sharp s t i n k w hs hi h35 (fun w => by rw [← hf]; exact l3Bits_any s i w hs hi)
  by_cases hg : dg s[i] = true
  · refine (l3Token_dig s i w hs hi hg).mono ?_
    rintro e w' ⟨rfl, hb⟩
    refine ⟨?_, hb⟩
    have ht : tokL (s.data.toList.drop i) = if (tokN (s.data.toList.drop i)).1 = 0 then none else some ((tokN (s.data.toList.drop i)).1, (s.data.toList.drop i).take (tokN (s.data.toList.drop i)).2, (tokN (s.data.toList.drop i)).2) := by
      rw [hd]; unfold tokL; simp only; rw [if_neg h34, if_neg h124, if_neg h58, if_neg h35, if_pos hg]
    rw [ht]
    unfold numR
    obtain ⟨⟨c, n⟩, hc⟩ : ∃ x, tokN (s.data.toList.drop i) = x := ⟨_, rfl⟩
    rw [hc]
    simp only
    by_cases h0 : c = 0
    · rw [if_pos h0, if_pos h0]; rfl
    · rw [if_neg h0, if_neg h0, ext_drop]; rfl
  have hg' : dg s[i] = false := by simpa using hg
  by_cases hn : nameB s[i] = true
  · refine (l3Token_name s i _ w hs hi hn hg' rfl).mono ?_
    rintro e w' ⟨rfl, hb⟩
    refine ⟨?_, hb⟩
    have ht : tokL (s.data.toList.drop i) = some (2, (s.data.toList.drop i).take (runL nameB (s.data.toList.drop i)), runL nameB (s.data.toList.drop i)) := by
      rw [hd]; unfold tokL; simp only; rw [if_neg h34, if_neg h124, if_neg h58, if_neg h35, if_neg hg, if_pos hn]
    rw [ht, ext_drop]; rfl
  · have hn' : nameB s[i] = false := by simpa using hn
    refine (l3Token_none s i w hs hi ⟨h34, h124, h58, h35⟩ hn' hg').mono ?_
    rintro e w' ⟨rfl, hb⟩
    refine ⟨specR_none ?_, hb⟩
    rw [hd]; unfold tokL; simp only; rw [if_neg h34, if_neg h124, if_neg h58, if_neg h35, if_neg hg, if_neg hn]
end Go.Proofs.Ytdngpnlbhadbpaa
