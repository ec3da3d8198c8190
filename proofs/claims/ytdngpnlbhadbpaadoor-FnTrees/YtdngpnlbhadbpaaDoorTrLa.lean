import Derived.Test.YtdngpnlbhadbpaaDoorTrFt
import Derived.Lib.AppendStr
namespace Go.Proofs.YtdngpnlbhadbpaaDoor
open Go.ChangeShapes Go.WideShapes Go.ChangeAt Go.RowKit
/-- Of two rows of different kinds one grows: the other is as it was. -/
theorem own_apart {W W' : World} {base : Nat} {e1 e2 : TypeId} {v1 v2 : Value} {n1 n2 : Nat} {xs1 xs2 : List Value} (h1 : W.ownsRow base e1 1 v1 n1 xs1) (h2 : W.ownsRow base e2 1 v2 n2 xs2) (hne : e1 ≠ e2) (hg : W.grownBy W' v1.ownBlock) : W'.ownsRow base e2 1 v2 n2 xs2 := by
  refine own_other h2 fun g hg2 => hg.block g (h2.lt g hg2).2 ?_
  intro e
  obtain ⟨c1, f1, k1⟩ := own_kind h1 g e.symm
  obtain ⟨c2, f2, k2⟩ := own_kind h2 g hg2
  rw [k1] at k2
  cases k2
  exact hne rfl
/-- A byte behind a row of bytes. -/
theorem wpList_appB {ops : Array Oper} {rest : List Oper} {o : Oper} {a : Act} {Q : Exit → Act → World → Prop} {W : World} {y : Int} {base n : Nat} {v : Value} {xs : List Value} (hgd : o.guard = none) (s x : Operand)
    (ho : o.op = .call { callee := .builtin .append, args := #[s, x], argTypes := #[22, 22] }) (hs : a.eval s = v) (hown : W.ownsRow base 5 1 v n xs)
    (H : Nat) (hx : a.eval x = .slice (some ⟨H, 0, none⟩) 1 1) (hH : W.heap.size = H) (hn : n ≤ 1000000000) (hbase : base ≤ W.heap.size)
    (h : ∀ g cap W', W'.ownsRow base 5 1 (.slice (some ⟨g, 0, none⟩) (n + 1) cap) (n + 1) (xs ++ [.int .u8 y]) → (W.alloc (.cells #[.int .u8 y] 5)).grownBy W' v.ownBlock → wpList Tryd.prog ops Q rest (a.put o.dst (.slice (some ⟨g, 0, none⟩) (n + 1) cap)) W') :
    wpList Tryd.prog ops Q (o :: rest) a (W.alloc (.cells #[.int .u8 y] 5)) := by
  subst hH
  obtain ⟨i0, hinf, hz0, hz1, hz2⟩ := info_parts Tryd.info_u8
  refine wpList_append_lies _ hgd s x 22 ho base 5 i0 (.int .u8 0) 1 1 Tryd.underlying22 hinf hz0 hz1 hz2 rfl (by decide) v n xs hs (hown.alloc _) ⟨W.heap.size, 0, none⟩ 1 1 [.int .u8 y] hx rfl
    (World.news_of_block (cs := #[.int .u8 y]) (t := 5) (fr := (0, 0)) (heap_alloc_new W _)) (by simp [Value.oneCell']) (by decide) (by unfold maxLen; omega) (by omega) (by simp; omega) _ rfl ?_
  intro g cap W' h1 h2 _ _
  exact h g cap W' h1 h2
/-- A number behind a row of numbers. -/
theorem wpList_appI {ops : Array Oper} {rest : List Oper} {o : Oper} {a : Act} {Q : Exit → Act → World → Prop} {W : World} {y : Int} {base n : Nat} {v : Value} {xs : List Value} (hgd : o.guard = none) (s x : Operand)
    (ho : o.op = .call { callee := .builtin .append, args := #[s, x], argTypes := #[38, 38] }) (hs : a.eval s = v) (hown : W.ownsRow base 3 1 v n xs)
    (H : Nat) (hx : a.eval x = .slice (some ⟨H, 0, none⟩) 1 1) (hH : W.heap.size = H) (hn : n ≤ 1000000000) (hbase : base ≤ W.heap.size)
    (h : ∀ g cap W', W'.ownsRow base 3 1 (.slice (some ⟨g, 0, none⟩) (n + 1) cap) (n + 1) (xs ++ [.int .i64 y]) → (W.alloc (.cells #[.int .i64 y] 3)).grownBy W' v.ownBlock → wpList Tryd.prog ops Q rest (a.put o.dst (.slice (some ⟨g, 0, none⟩) (n + 1) cap)) W') :
    wpList Tryd.prog ops Q (o :: rest) a (W.alloc (.cells #[.int .i64 y] 3)) := by
  subst hH
  obtain ⟨i0, hinf, hz0, hz1, hz2⟩ := info_parts Tryd.info_int
  refine wpList_append_lies _ hgd s x 38 ho base 3 i0 (.int .i64 0) 1 8 Tryd.underlying38 hinf hz0 hz1 hz2 rfl (by decide) v n xs hs (hown.alloc _) ⟨W.heap.size, 0, none⟩ 1 1 [.int .i64 y] hx rfl
    (World.news_of_block (cs := #[.int .i64 y]) (t := 3) (fr := (0, 0)) (heap_alloc_new W _)) (by simp [Value.oneCell']) (by decide) (by unfold maxLen; omega) (by omega) (by simp; omega) _ rfl ?_
  intro g cap W' h1 h2 _ _
  exact h g cap W' h1 h2
/-- A text behind a row of bytes. -/
theorem wpList_appS {ops : Array Oper} {rest : List Oper} {o : Oper} {a : Act} {Q : Exit → Act → World → Prop} {W : World} {base n : Nat} {v : Value} {xs : List Value} {t : ByteArray} (hgd : o.guard = none) (s x : Operand)
    (ho : o.op = .call { callee := .builtin .append, args := #[s, x], argTypes := #[22, 9] }) (hs : a.eval s = v) (hown : W.ownsRow base 5 1 v n xs)
    (hx : a.eval x = .string t) (hn : n ≤ 1000000000) (ht : t.size ≤ 1000000) (hbase : base ≤ W.heap.size)
    (h : ∀ v' W', W'.ownsRow base 5 1 v' (n + t.size) (xs ++ Lib.strCells t) → W.grownBy W' v.ownBlock → wpList Tryd.prog ops Q rest (a.put o.dst v') W') :
    wpList Tryd.prog ops Q (o :: rest) a W := by
  obtain ⟨i0, hinf, hz0, hz1, hz2⟩ := info_parts Tryd.info_u8
  refine Lib.wpList_append_own_string _ hgd s x 22 9 ho base 5 i0 Tryd.underlying22 Tryd.underlying9 hinf hz0 hz1 hz2 v n xs hs hown t hx (by unfold maxLen; omega) (by omega) hbase ?_
  intro v' W' h1 h2 _
  exact h v' W' h1 h2
theorem l3Written_any (nd : Nd) (q : Int) (w : World) (hs : nd.text.size ≤ 20000) (hk : nodeOk nd = true) (h1 : nd.kind ≠ 1) :
    Calls Tryd.prog 36 #[.agg #[.int .i64 nd.kind, .string nd.text, .int .i64 nd.kids, .int .i64 q]] w fun e w' => e = .returned (.string (strOf (tokT nd.kind nd.text.data.toList))) ∧ Below w.heap.size w w' := by
  obtain ⟨_, _, hw⟩ := nodeOk_split hk
  obtain ⟨kind, text, kids⟩ := nd
  dsimp only at *
  by_cases h2 : kind = 2
  · subst h2; exact l3Written_2 text kids q w hs
  by_cases h3 : kind = 3 ∨ kind = 4
  · exact l3Written_n kind text kids q w h3
  by_cases h5 : kind = 5
  · subst h5; exact l3Written_5 text kids q w hs
  by_cases h6 : kind = 6
  · subst h6; exact l3Written_6 text kids q w hs
  by_cases h7 : kind = 7
  · subst h7; exact l3Written_7 text kids q w hs
  exfalso
  simp only [wordOk, if_neg h1, if_neg h2, if_neg (fun e => h3 (.inl e)), if_neg (fun e => h3 (.inr e)), if_neg h5, if_neg h6, if_neg h7] at hw
  cases hw
theorem last_dg {t : List UInt8} (h : t.all dg = true) (h0 : t ≠ []) : ∃ p c, t = p ++ [c] ∧ c ≠ 40 := by
  refine ⟨t.dropLast, t.getLast h0, (List.dropLast_concat_getLast h0).symm, ?_⟩
  intro e
  rw [List.all_eq_true] at h
  have := h _ (List.getLast_mem h0)
  rw [e] at this
  exact absurd this (by decide)
theorem last_all {p : UInt8 → Bool} (hp : p 40 = false) {t : List UInt8} (h : t.all p = true) (h0 : t ≠ []) : ∃ q c, t = q ++ [c] ∧ c ≠ 40 := by
  refine ⟨t.dropLast, t.getLast h0, (List.dropLast_concat_getLast h0).symm, ?_⟩
  intro e
  rw [List.all_eq_true] at h
  have := h _ (List.getLast_mem h0)
  rw [e, hp] at this
  cases this
theorem last_cons {c : UInt8} {t : List UInt8} (h : ∃ p d, t = p ++ [d] ∧ d ≠ 40) : ∃ p d, c :: t = p ++ [d] ∧ d ≠ 40 := by
  obtain ⟨p, d, rfl, hd⟩ := h
  exact ⟨c :: p, d, rfl, hd⟩
/-- No token but the one that opens a list ends in a bracket that opens. -/
theorem tok_last {nd : Nd} (hk : nodeOk nd = true) (h1 : nd.kind ≠ 1) : ∃ p c, tokT nd.kind nd.t = p ++ [c] ∧ c ≠ 40 := by
  obtain ⟨_, _, hw⟩ := nodeOk_split hk
  generalize nd.t = t at *
  generalize nd.kind = kind at *
  by_cases h2 : kind = 2
  · subst h2
    show ∃ p c, (if plainN t then t else 124 :: (t ++ [124])) = p ++ [c] ∧ c ≠ 40
    split
    · rename_i hp
      obtain ⟨h0, _, ha⟩ := plainN_split hp
      exact last_all (by decide) ha h0
    · exact ⟨124 :: t, 124, rfl, by decide⟩
  by_cases h3 : kind = 3
  · subst h3
    show ∃ p c, t = p ++ [c] ∧ c ≠ 40
    have hw' : numOk false t = true := hw
    simp only [numOk, Bool.and_eq_true, decide_eq_true_eq] at hw'
    obtain ⟨⟨h0, _⟩, h4⟩ := hw'
    simp only [Bool.false_eq_true, if_false, Bool.and_eq_true, decide_eq_true_eq] at h4
    refine last_dg (runL_eq_len h4.2) ?_
    rintro rfl
    simp [runL] at h0
  by_cases h4 : kind = 4
  · subst h4
    show ∃ p c, t = p ++ [c] ∧ c ≠ 40
    have hw' : numOk true t = true := hw
    obtain ⟨k, hk⟩ : ∃ k, runL dg t = k := ⟨_, rfl⟩
    simp only [numOk, hk, Bool.and_eq_true, decide_eq_true_eq, if_true] at hw'
    obtain ⟨⟨h0, _⟩, h5, h6⟩ := hw'
    cases hd : t.drop k with
    | nil => rw [hd] at h5; simp at h5
    | cons c r =>
      rw [hd] at h5 h6
      simp only at h5 h6
      by_cases hc : c = 46
      · rw [if_pos hc] at h5 h6
        have hl : t = t.take k ++ (c :: r) := by rw [← hd, List.take_append_drop]
        have hlen : t.length = k + (r.length + 1) := by
          have := congrArg List.length hl
          rw [List.length_append, List.length_take, List.length_cons] at this
          have hkl := runL_le dg t
          omega
        obtain ⟨p, d, hr, hd2⟩ := last_dg (t := r) (runL_eq_len (by omega)) (by rintro rfl; simp [runL] at h5)
        exact ⟨t.take k ++ (c :: p), d, hl.trans (by rw [hr]; simp), hd2⟩
      · rw [if_neg hc] at h5; omega
  by_cases h5 : kind = 5
  · subst h5
    have hw' : (!t.isEmpty && t.all bitB) = true := hw
    rw [Bool.and_eq_true, Bool.not_eq_true', List.isEmpty_eq_false_iff] at hw'
    exact last_cons (last_cons (last_all (by decide) hw'.2 hw'.1))
  by_cases h6 : kind = 6
  · subst h6; exact ⟨34 :: dbl t, 34, rfl, by decide⟩
  by_cases h7 : kind = 7
  · subst h7
    have hw' : (!t.isEmpty && t.all nameB) = true := hw
    rw [Bool.and_eq_true, Bool.not_eq_true', List.isEmpty_eq_false_iff] at hw'
    exact last_cons (last_all (by decide) hw'.2 hw'.1)
  exfalso
  simp only [wordOk, if_neg h1, if_neg h2, if_neg h3, if_neg h4, if_neg h5, if_neg h6, if_neg h7] at hw
  cases hw
end Go.Proofs.YtdngpnlbhadbpaaDoor
