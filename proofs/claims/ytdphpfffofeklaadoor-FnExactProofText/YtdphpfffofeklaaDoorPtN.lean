import Derived.Test.YtdphpfffofeklaaDoorPtM
import Derived.Test.YtdphpfffofeklaaDoorSa
import Derived.Test.YtdphpfffofeklaaDoorTcA
namespace Go.Proofs.YtdphpfffofeklaaDoor.P
open Go.ChangeShapes Go.WideShapes Go.ChangeAt Go.RowKit
open T (Nd runL runL_all nodeOk wordOk numOk tokT plainN nameB_bar all_imp popZ decL fitF rowS)
open L (strOf strOf_toList strOf_size Tn)
/-- An int text. -/
def isI (s : List UInt8) : Bool := isIntB (strOf s)
def ngL (s : List UInt8) : Bool := decide (s.head? = some 45)
def dgL (s : List UInt8) : List UInt8 := if ngL s then s.tail else s
theorem dgs_list (s : List UInt8) : (dgs (strOf s)).data.toList = dgL s ∧ isNeg (strOf s) = ngL s := by
  have e0 : ((strOf s).extract 0 1).toList = s.take 1 := by
    rw [ByteArray.toList_eq, ByteArray.data_extract]; simp [L.strOf]
  have e1 : isNeg (strOf s) = ngL s := by
    unfold isNeg ngL
    rw [e0]
    cases s with
    | nil => rfl
    | cons c r => rw [Bool.eq_iff_iff]; simp
  refine ⟨?_, e1⟩
  unfold dgs dgL
  rw [e1]
  cases hn : ngL s with
  | false => simp [strOf_toList]
  | true =>
    have : ((strOf s).extract 1 (strOf s).size).data.toList = s.drop 1 := by
      rw [strOf_size, ByteArray.data_extract]; simp [L.strOf]
      rw [List.take_of_length_le (by simp)]
    simp only [if_true, this, List.drop_one]
theorem isI_dig {s : List UInt8} (h : isI s = true) : dgL s ≠ [] ∧ (dgL s).length ≤ 2500 ∧ (dgL s).all isDig = true ∧ ((dgL s).head? = some 48 → s = [48]) := by
  obtain ⟨e1, e2⟩ := dgs_list s
  unfold isI isIntB at h
  rw [e1] at h
  simp only [Bool.and_eq_true, decide_eq_true_eq, Bool.or_eq_true, Bool.not_eq_true', decide_eq_false_iff_not, beq_iff_eq] at h
  obtain ⟨⟨⟨h1, h2⟩, h3⟩, h4⟩ := h
  have e3 : (dgs (strOf s)).size = (dgL s).length := by rw [← e1, Array.length_toList]; rfl
  rw [e3] at h1 h2
  refine ⟨fun e => by rw [e] at h1; simp at h1, h2, h3, fun e => ?_⟩
  rcases h4 with h4 | h4
  · exact absurd e h4
  · rw [ByteArray.toList_eq, strOf_toList] at h4; exact h4
theorem dgL_len (s : List UInt8) : (dgL s).length ≤ s.length := by unfold dgL; split <;> simp
theorem len_dgL (s : List UInt8) : s.length ≤ (dgL s).length + 1 := by unfold dgL; split <;> simp; omega
def nameN (t : List UInt8) : Nd := ⟨2, strOf t, 0⟩
def numN (t : List UInt8) : Nd := ⟨3, strOf t, 0⟩
def sgnT (s : List UInt8) : List UInt8 := if ngL s then 40 :: 45 :: 32 :: (s.tail ++ [41]) else s
def intN (s : List UInt8) : List Nd := if ngL s then [listN 2, nameN [45], numN s.tail] else [numN s]
abbrev Pr := List Nd × List UInt8
def lsP (ts : List Pr) : Pr := (listN ts.length :: ts.flatMap Prod.fst, 40 :: (Lib.join (ts.map Prod.snd) [32] ++ [41]))
def nmP (t : List UInt8) : Pr := ([nameN t], t)
def inP (s : List UInt8) : Pr := (intN s, sgnT s)
def leafB : List UInt8 := [108, 101, 97, 102]
def branchB : List UInt8 := [98, 114, 97, 110, 99, 104]
def kn (k : Int) : List UInt8 := if k = 1 then [101, 113, 117, 97, 108] else if k = 2 then [108, 105, 110, 101, 97, 114] else if k = 3 then [99, 104, 97, 105, 110] else []
def isLf (f : Tn) : Bool := decide (f.col = -1) && f.pl.isEmpty
def tnP (f : Tn) : Pr := if isLf f then lsP (nmP leafB :: f.mu.map inP) else lsP [nmP branchB, inP (Lib.itoa f.col), inP f.pl]
structure Lm where
  kind : Int
  lits : List Int
  chain : List Int
  tree : List Tn
def liP (n : Int) : Pr := inP (Lib.itoa n)
def lemP (l : Lm) : Pr := lsP [nmP (kn l.kind), lsP (l.lits.map liP), lsP (l.chain.map liP), lsP (l.tree.map tnP)]
def tnOk (f : Tn) : Bool := if isLf f then f.mu.all isI else (decide (0 ≤ f.col) && f.mu.isEmpty && isI f.pl)
def kdOk (k : Int) : Bool := decide (k = 1) || decide (k = 2) || decide (k = 3)
def lemOk (l : Lm) : Bool := kdOk l.kind && !l.lits.contains 0 && l.chain.all (fun n => decide (0 ≤ n)) && l.tree.all tnOk
def linesT (ps : List Lm) : List UInt8 := ps.flatMap (fun l => (lemP l).2 ++ [10])
def proofT (ps : List Lm) : List UInt8 := if ps.all lemOk && decide ((linesT ps).length ≤ 20000) then linesT ps else []
/-- So many bytes, as the specification counts them. -/
def szN (ns : List Nd) : Nat := (ns.map (fun n => if n.kind = 1 then 2 else n.text.size)).sum
theorem szN_app (a b : List Nd) : szN (a ++ b) = szN a + szN b := by unfold szN; rw [List.map_append, List.sum_append]
theorem szN_cons (n : Nd) (r : List Nd) : szN (n :: r) = (if n.kind = 1 then 2 else n.text.size) + szN r := by unfold szN; rw [List.map_cons, List.sum_cons]
/-- A tree's nodes and its text. -/
structure Gd (d : Nat) (x : Pr) : Prop where
  wr : Wr x.1 x.2
  fi : Fi x.1 d
  sz : szN x.1 ≤ x.2.length
  nn : x.1.length ≤ szN x.1
  ts : tsz x.1 ≤ szN x.1
theorem Gd.mono {d d' : Nat} {x : Pr} (h : Gd d x) (hd : d ≤ d') : Gd d' x := ⟨h.wr, h.fi.mono hd, h.sz, h.nn, h.ts⟩
theorem join_len (ts : List (List UInt8)) : (ts.map List.length).sum ≤ (Lib.join ts [32]).length := by
  cases ts with
  | nil => simp
  | cons x r =>
    rw [Lib.join_cons]
    simp only [List.map_cons, List.sum_cons, List.length_append, Nat.add_le_add_iff_left]
    induction r with
    | nil => simp
    | cons y r ih =>
      have e : Lib.joinTail [32] (y :: r) = 32 :: (y ++ Lib.joinTail [32] r) := rfl
      rw [e]
      simp only [List.map_cons, List.sum_cons, List.length_cons, List.length_append]
      omega
theorem gd_list {d : Nat} (ts : List Pr) (h : ∀ x ∈ ts, Gd d x) : Gd (d + 1) (lsP ts) := by
  have e : ts.flatMap Prod.fst = (ts.map Prod.fst).flatten := by rw [List.flatMap_def]
  have e0 : (listN ts.length).kind = 1 := rfl
  have key : szN (ts.flatMap Prod.fst) ≤ (ts.map (fun x => x.2.length)).sum ∧ (ts.flatMap Prod.fst).length ≤ szN (ts.flatMap Prod.fst) ∧ tsz (ts.flatMap Prod.fst) ≤ szN (ts.flatMap Prod.fst) := by
    clear e e0
    induction ts with
    | nil => exact ⟨Nat.le_refl _, Nat.le_refl _, Nat.le_refl _⟩
    | cons x r ih =>
      have hx := h x (by simp)
      obtain ⟨i1, i2, i3⟩ := ih (fun y hy => h y (by simp [hy]))
      have := hx.sz; have := hx.nn; have := hx.ts
      rw [List.flatMap_cons, szN_app, tsz_app, List.length_append, List.map_cons, List.sum_cons]
      omega
  refine ⟨Wr.list ts (fun x hx => (h x hx).wr), ?_, ?_, ?_, ?_⟩
  · show Fi (listN ts.length :: ts.flatMap Prod.fst) (d + 1)
    rw [e]
    have := Fi.list (ts.map Prod.fst) (d := d) (fun x hx => by
      obtain ⟨y, hy, rfl⟩ := List.mem_map.1 hx
      exact (h y hy).fi)
    rw [List.length_map] at this
    exact this
  · show szN (listN ts.length :: ts.flatMap Prod.fst) ≤ (40 :: (Lib.join (ts.map Prod.snd) [32] ++ [41])).length
    have := join_len (ts.map Prod.snd)
    rw [List.map_map] at this
    have e2 : (ts.map (List.length ∘ Prod.snd)).sum = (ts.map (fun x => x.2.length)).sum := rfl
    rw [e2] at this
    rw [szN_cons, if_pos e0]
    simp only [List.length_cons, List.length_append, List.length_nil]
    omega
  · show (listN ts.length :: ts.flatMap Prod.fst).length ≤ szN (listN ts.length :: ts.flatMap Prod.fst)
    rw [szN_cons, if_pos e0, List.length_cons]; omega
  · show tsz (listN ts.length :: ts.flatMap Prod.fst) ≤ szN (listN ts.length :: ts.flatMap Prod.fst)
    rw [szN_cons, if_pos e0, tsz_cons]
    have : (listN ts.length).text.size = 0 := rfl
    omega
theorem gd_leaf {n : Nd} {t : List UInt8} (h1 : n.kind ≠ 1) (ht : tokT n.kind n.t = t) (hs : n.text.size = t.length) (h0 : t ≠ []) (hk : nodeOk n = true) : Gd 0 ([n], t) := by
  have hp := List.length_pos_iff.2 h0
  refine ⟨by subst ht; exact Wr.leaf h1, Fi.leaf h1 hk 0, ?_, ?_, ?_⟩
  · show szN [n] ≤ t.length
    rw [szN_cons, if_neg h1, hs]; exact Nat.le_refl _
  · show [n].length ≤ szN [n]
    rw [szN_cons, if_neg h1, hs]; simp only [List.length_cons, List.length_nil]; omega
  · show tsz [n] ≤ szN [n]
    rw [szN_cons, if_neg h1, tsz_cons]; exact Nat.le_refl _
theorem gd_name {t : List UInt8} (h : plainN t = true) : Gd 0 (nmP t) := by
  have e : (nameN t).t = t := by unfold nameN Nd.t; exact strOf_toList t
  have h' := h
  unfold plainN at h'
  simp only [Bool.and_eq_true] at h'
  refine gd_leaf (by decide : (2 : Int) ≠ 1) ?_ (strOf_size t) (fun e => by rw [e] at h'; simp at h') ?_
  · rw [e]; show tokT 2 t = t
    unfold tokT; rw [if_neg (by decide), if_pos rfl, if_pos h]
  · unfold nodeOk
    rw [e]
    show (decide ((0 : Int) ≤ 0) && (decide ((2 : Int) = 1) || decide ((0 : Int) = 0)) && wordOk 2 t) = true
    unfold wordOk
    rw [if_neg (by decide), if_pos rfl, all_imp (fun _ => nameB_bar) h'.2]
    rfl
theorem dig_dg {t : List UInt8} (h : t.all isDig = true) : t.all T.dg = true := by
  refine all_imp (fun c hc => ?_) h
  unfold isDig at hc
  unfold T.dg
  simp only [decide_eq_true_eq] at hc
  simp [hc.1, hc.2]
theorem gd_num {t : List UInt8} (h : t.all isDig = true) (h0 : t ≠ []) (h1 : t.head? = some 48 → t = [48]) : Gd 0 ([numN t], t) := by
  have e : (numN t).t = t := by unfold numN Nd.t; exact strOf_toList t
  have hr : runL T.dg t = t.length := runL_all (dig_dg h)
  have hp := List.length_pos_iff.2 h0
  refine gd_leaf (by decide : (3 : Int) ≠ 1) ?_ (strOf_size t) h0 ?_
  · rw [e]; show tokT 3 t = t
    unfold tokT; rw [if_neg (by decide), if_neg (by decide), if_pos (.inl rfl)]
  · unfold nodeOk
    rw [e]
    show (decide ((0 : Int) ≤ 0) && (decide ((3 : Int) = 1) || decide ((0 : Int) = 0)) && wordOk 3 t) = true
    unfold wordOk
    rw [if_neg (by decide), if_neg (by decide), if_pos rfl]
    unfold numOk
    simp only [hr, List.drop_length]
    by_cases hh : t.head? = some 48
    · rw [h1 hh]; decide
    · simp [hh]; omega
theorem gd_in {s : List UInt8} (h : isI s = true) : Gd 1 (inP s) := by
  obtain ⟨h0, _, h2, h3⟩ := isI_dig h
  unfold inP intN sgnT
  cases hn : ngL s with
  | true =>
    have e : dgL s = s.tail := by unfold dgL; rw [if_pos hn]
    rw [e] at h0 h2 h3
    have := gd_list (d := 0) [nmP [45], ([numN s.tail], s.tail)] (fun x hx => by
      simp only [List.mem_cons, List.not_mem_nil, or_false] at hx
      rcases hx with rfl | rfl
      · exact gd_name (by decide)
      · exact gd_num h2 h0 (fun hh => by rw [h3 hh] at hn; simp [ngL] at hn))
    have e2 : lsP [nmP [45], ([numN s.tail], s.tail)] = ([listN 2, nameN [45], numN s.tail], 40 :: 45 :: 32 :: (s.tail ++ [41])) := by
      unfold lsP nmP
      simp [Lib.join, List.intercalate, List.intersperse]
    rw [e2] at this
    exact this
  | false =>
    have e : dgL s = s := by unfold dgL; rw [if_neg (by simp [hn])]
    rw [e] at h0 h2 h3
    exact (gd_num h2 h0 h3).mono (Nat.zero_le _)
theorem dec_dig (u : Nat) : (Lib.decDigits u).all isDig = true := by
  rw [Lib.decDigits_eq, List.all_map, List.all_eq_true]
  intro x _
  simp only [Function.comp]
  unfold Lib.dg
  have : u / 10 ^ (Lib.nDigits u - 1 - x) % 10 < 10 := Nat.mod_lt _ (by decide)
  unfold isDig
  simp
  omega
theorem dec_ne (u : Nat) : Lib.decDigits u ≠ [] := by
  intro e
  have h := Lib.decDigits_length u
  rw [e] at h
  have := Lib.nDigits_pos u
  simp at h
  omega
theorem dec_head (u : Nat) : (Lib.decDigits u).head? = some 48 → u = 0 := by
  induction u using Nat.strongRecOn with
  | _ u ih =>
    by_cases h : u < 10
    · rw [Lib.decDigits_one h]
      intro e
      simp only [List.head?_cons, Option.some.injEq] at e
      have := congrArg UInt8.toNat e
      simp at this
      omega
    · rw [Lib.decDigits, dif_neg h, List.head?_append]
      intro e
      have hne := dec_ne (u / 10)
      cases hd : Lib.decDigits (u / 10) with
      | nil => exact absurd hd hne
      | cons c r =>
        rw [hd] at e
        have := ih (u / 10) (by omega) (by rw [hd]; simpa using e)
        omega
theorem num_dec (u : Nat) : num (Lib.decDigits u) = u := by
  induction u using Nat.strongRecOn with
  | _ u ih =>
    by_cases h : u < 10
    · rw [Lib.decDigits_one h]
      simp [num]
      omega
    · rw [Lib.decDigits, dif_neg h, num_append, ih (u / 10) (by omega)]
      simp [num]
      omega
theorem dec_zero : Lib.decDigits 0 = [48] := by rw [Lib.decDigits_one (by decide)]; rfl
/-- A number's text, however it is made. -/
theorem textD_dec (t : List Nat) (h1 : okL t) (h2 : isTrim t) (h0 : t ≠ []) : textD t = Lib.decDigits (val t) := by
  obtain ⟨d, hd⟩ : ∃ d, Lib.decDigits (val t) = d := ⟨_, rfl⟩
  have hv : 0 < val t := by
    rcases Nat.eq_zero_or_pos (val t) with e | e
    · exact absurd (val_inj t [] h1 (fun x hx => by simp at hx) h2 (fun h => absurd rfl h) (by rw [e]; rfl)) h0
    · exact e
  have hg : ∀ c ∈ d, dig c := by
    have := dec_dig (val t)
    rw [hd, List.all_eq_true] at this
    intro c hc
    have := this c hc
    unfold isDig at this
    simpa [dig] using this
  have hh : d.head? ≠ some 48 := by
    rw [← hd]
    intro e
    have := dec_head _ e
    omega
  have e1 := textD_chunks d hg hh
  have ho := trimL_ok (chunks d) (chunks_ok d hg)
  have e2 := num_textD _ ho
  rw [e1, ← hd, num_dec] at e2
  have e3 := val_inj t (trimL (chunks d)) h1 ho h2 (trimL_trim _) (by rw [← hd]; exact e2)
  rw [hd, e3]
  exact e1
theorem full_itoa {neg : Bool} {t : List Nat} {n : Int} (h1 : okL t) (h2 : isTrim t) (h : sg neg (val t) = n) : fullT (negOf neg t) t = strOf (Lib.itoa n) := by
  by_cases h0 : t = []
  · subst h0
    have : n = 0 := by rw [← h]; cases neg <;> rfl
    subst this
    have e : Lib.itoa 0 = [48] := by unfold Lib.itoa; rw [if_neg (by decide)]; exact dec_zero
    rw [e]
    rfl
  · have hv : 0 < val t := by
      rcases Nat.eq_zero_or_pos (val t) with e | e
      · exact absurd (val_inj t [] h1 (fun x hx => by simp at hx) h2 (fun h => absurd rfl h) (by rw [e]; rfl)) h0
      · exact e
    have hl : t.length ≠ 0 := fun e => h0 (List.length_eq_zero_iff.1 e)
    have hl' : 0 < t.length := by omega
    unfold fullT negOf
    rw [if_neg hl, textD_dec t h1 h2 h0, decide_eq_true hl', Bool.and_true]
    unfold sg at h
    cases neg with
    | true =>
      simp only [if_true] at h ⊢
      subst h
      rw [Lib.itoa_neg _ hv]
      rfl
    | false =>
      simp only [Bool.false_eq_true, if_false] at h ⊢
      subst h
      rw [Lib.itoa_nonneg]
      rfl
theorem dec_short (u : Nat) (h : u < 10 ^ 20) : (Lib.decDigits u).length ≤ 20 := by
  rw [Lib.decDigits_length]
  by_cases h0 : Lib.nDigits u ≤ 20
  · exact h0
  · exfalso
    have key : ∀ k v : Nat, v < 10 ^ (k + 1) → Lib.nDigits v ≤ k + 1 := by
      intro k
      induction k with
      | zero => intro v hv; rw [Lib.nDigits_small (by simpa using hv)]; exact Nat.le_refl _
      | succ k ih =>
        intro v hv
        by_cases hs : v < 10
        · rw [Lib.nDigits_small hs]; omega
        · rw [Lib.nDigits_big hs]
          have := ih (v / 10) (by rw [Nat.pow_succ] at hv; omega)
          omega
    exact h0 (key 19 u h)
theorem itoa_isI (n : Int) (h0 : -9223372036854775808 ≤ n) (h1 : n ≤ 9223372036854775807) : isI (Lib.itoa n) = true ∧ (Lib.itoa n).length ≤ 21 ∧ (ngL (Lib.itoa n) = decide (n < 0)) := by
  obtain ⟨u, hu⟩ : ∃ u : Nat, n.natAbs = u := ⟨_, rfl⟩
  have hlt : u < 10 ^ 20 := by
    have : u ≤ 9223372036854775808 := by omega
    exact Nat.lt_of_le_of_lt this (by decide)
  have hs := dec_short u hlt
  have hd := dec_dig u
  have hne := dec_ne u
  have hh := dec_head u
  have hng : ngL (Lib.decDigits u) = false := by
    unfold ngL
    rw [decide_eq_false_iff_not]
    intro e
    cases hx : Lib.decDigits u with
    | nil => rw [hx] at e; simp at e
    | cons c r =>
      rw [hx] at e hd
      simp only [List.head?_cons, Option.some.injEq] at e
      subst e
      simp [isDig] at hd
  have sized : ∀ s : List UInt8, (dgs (strOf s)).size = (dgL s).length := fun s => by rw [← (dgs_list s).1, Array.length_toList]; rfl
  by_cases hn : n < 0
  · have e : Lib.itoa n = 45 :: Lib.decDigits u := by unfold Lib.itoa; rw [if_pos hn, hu]
    have ed : dgL (45 :: Lib.decDigits u) = Lib.decDigits u := rfl
    rw [e]
    refine ⟨?_, by simp only [List.length_cons]; omega, by rw [decide_eq_true hn]; rfl⟩
    unfold isI isIntB
    rw [(dgs_list _).1, sized, ed]
    have hp := List.length_pos_iff.2 hne
    have : ¬ (Lib.decDigits u).head? = some 48 := fun x => by have := hh x; omega
    simp only [hd, decide_eq_true hp, decide_eq_true (show (Lib.decDigits u).length ≤ 2500 by omega), decide_eq_false this, Bool.not_false, Bool.true_or, Bool.and_true]
  · have e : Lib.itoa n = Lib.decDigits u := by unfold Lib.itoa; rw [if_neg hn, ← hu]; congr 1; omega
    have ed : dgL (Lib.decDigits u) = Lib.decDigits u := by unfold dgL; rw [hng]; rfl
    rw [e]
    refine ⟨?_, by omega, by rw [hng, decide_eq_false hn]⟩
    unfold isI isIntB
    rw [(dgs_list _).1, sized, ed]
    have hp := List.length_pos_iff.2 hne
    simp only [hd, decide_eq_true hp, decide_eq_true (show (Lib.decDigits u).length ≤ 2500 by omega), Bool.and_true, Bool.true_and]
    by_cases hx : (Lib.decDigits u).head? = some 48
    · have := hh hx
      subst this
      rw [dec_zero]
      decide +kernel
    · simp [hx]
end Go.Proofs.YtdphpfffofeklaaDoor.P
