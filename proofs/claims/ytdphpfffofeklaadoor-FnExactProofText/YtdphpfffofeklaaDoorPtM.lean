import Derived.Test.YtdphpfffofeklaaDoorTa
import Derived.Lib.ItoaNum
import Derived.Lib.ItoaMem
import Derived.Lib.ItoaLen
import Derived.Lib.Join
namespace Go.Proofs.YtdphpfffofeklaaDoor.P
open Go.ChangeShapes Go.WideShapes Go.ChangeAt Go.RowKit T
/-- What is written for the lists that end. -/
def emit (l : List Int) : List UInt8 := List.replicate (l.length - (popZ l).length) 41 ++ (if (popZ l).isEmpty then [10] else [])
def sepS (l : List Int) (b : Bool) : List UInt8 := if l.isEmpty || b then [] else [32]
theorem rowS_cons (n : Nd) (r : List Nd) (l : List Int) (b : Bool) : rowS (n :: r) l b = sepS l b ++ (tokT n.kind n.t ++ (emit (pushL n l) ++ rowS r (popZ (pushL n l)) (decide (n.kind = 1) && decide (closedL n l = 0)))) := by
  show _ ++ _ ++ _ ++ _ ++ _ = _
  unfold emit sepS closedL stepL
  simp only [List.append_assoc]
theorem emit_zero (l : List Int) : emit (0 :: l) = 41 :: emit l := by
  unfold emit
  have h := popZ_len l
  have e : popZ (0 :: l) = popZ l := by simp [popZ]
  rw [e, List.length_cons, show l.length + 1 - (popZ l).length = l.length - (popZ l).length + 1 by omega, List.replicate_succ]
  rfl
theorem emit_more {a : Int} (l : List Int) (h : a ≠ 0) : emit (a :: l) = [] := by
  unfold emit
  have e : popZ (a :: l) = a :: l := by simp [popZ, h]
  rw [e]; simp
/-- One tree and its text. -/
def Wr (ns : List Nd) (t : List UInt8) : Prop := ∀ (l : List Int) (b : Bool) (rest : List Nd), rowS (ns ++ rest) l b = sepS l b ++ (t ++ (emit (decL l) ++ rowS rest (popZ (decL l)) false))
theorem Wr.leaf {n : Nd} (h : n.kind ≠ 1) : Wr [n] (tokT n.kind n.t) := by
  intro l b rest
  have e : pushL n l = decL l := by unfold pushL; rw [if_neg h]
  rw [List.singleton_append, rowS_cons, e, decide_eq_false h, Bool.false_and]
def listN (k : Nat) : Nd := ⟨1, ⟨#[]⟩, (k : Nat)⟩
/-- Trees inside a list, as many as are still to come. -/
theorem wr_some : ∀ (ts : List (List Nd × List UInt8)) (_ : ∀ x ∈ ts, Wr x.1 x.2) (_ : ts ≠ []) (m : List Int) (b : Bool) (rest : List Nd),
    rowS (ts.flatMap Prod.fst ++ rest) ((ts.length : Int) :: m) b = (if b then [] else [32]) ++ (Lib.join (ts.map Prod.snd) [32] ++ (41 :: emit m ++ rowS rest (popZ m) false))
  | [], _, h, _, _, _ => absurd rfl h
  | [x], hw, _, m, b, rest => by
    have h := hw x (by simp) (((1 : Nat) : Int) :: m) b rest
    have e1 : decL ((((1 : Nat) : Int)) :: m) = 0 :: m := rfl
    have e2 : popZ (0 :: m) = popZ m := by simp [popZ]
    rw [e1, e2, emit_zero] at h
    simp only [List.flatMap_cons, List.flatMap_nil, List.append_nil, List.length_cons, List.length_nil, Nat.zero_add, List.map_cons, List.map_nil]
    rw [h, Lib.join_one]
    unfold sepS
    simp
  | x :: y :: r, hw, _, m, b, rest => by
    have h := hw x (by simp) ((((x :: y :: r).length : Nat) : Int) :: m) b ((y :: r).flatMap Prod.fst ++ rest)
    have e1 : decL ((((x :: y :: r).length : Nat) : Int) :: m) = (((y :: r).length : Nat) : Int) :: m := by
      simp only [decL, List.length_cons]
      congr 1
      omega
    have hne : (((y :: r).length : Nat) : Int) ≠ 0 := by simp only [List.length_cons]; omega
    have e2 : popZ ((((y :: r).length : Nat) : Int) :: m) = (((y :: r).length : Nat) : Int) :: m := by unfold popZ; rw [if_neg hne]
    rw [e1, e2, emit_more _ hne, wr_some (y :: r) (fun z hz => hw z (by simp [hz])) (by simp) m false rest] at h
    rw [List.flatMap_cons, List.append_assoc, h]
    unfold sepS
    simp [Lib.join]
theorem Wr.list (ts : List (List Nd × List UInt8)) (h : ∀ x ∈ ts, Wr x.1 x.2) : Wr (listN ts.length :: ts.flatMap Prod.fst) (40 :: (Lib.join (ts.map Prod.snd) [32] ++ [41])) := by
  intro l b rest
  have e : pushL (listN ts.length) l = (ts.length : Int) :: decL l := by unfold pushL listN; rw [if_pos rfl]
  have e4 : tokT (listN ts.length).kind (listN ts.length).t = [40] := rfl
  rw [List.cons_append, rowS_cons, e, e4]
  by_cases hn : ts = []
  · subst hn
    have e1 : emit (((([] : List (List Nd × List UInt8)).length : Nat) : Int) :: decL l) = 41 :: emit (decL l) := emit_zero _
    have e2 : popZ (((([] : List (List Nd × List UInt8)).length : Nat) : Int) :: decL l) = popZ (decL l) := by simp [popZ]
    have e3 : closedL (listN ([] : List (List Nd × List UInt8)).length) l ≠ 0 := by
      unfold closedL stepL
      rw [e, e2]
      have := popZ_len (decL l)
      simp only [List.length_cons]; omega
    rw [e1, e2, decide_eq_false e3, Bool.and_false]
    simp [Lib.join]
  · have hne : ((ts.length : Nat) : Int) ≠ 0 := by
      have := List.length_pos_iff.2 hn
      omega
    have e2 : popZ (((ts.length : Nat) : Int) :: decL l) = ((ts.length : Nat) : Int) :: decL l := by unfold popZ; rw [if_neg hne]
    have e3 : closedL (listN ts.length) l = 0 := by
      unfold closedL stepL
      rw [e, e2]; omega
    have e5 : (listN ts.length).kind = 1 := rfl
    rw [emit_more _ hne, e2, decide_eq_true e3, decide_eq_true e5, Bool.and_true, wr_some ts h hn (decL l) true rest]
    simp
/-- Trees behind each other, each a line. -/
theorem wr_row : ∀ (ts : List (List Nd × List UInt8)) (_ : ∀ x ∈ ts, Wr x.1 x.2) (b : Bool), rowS (ts.flatMap Prod.fst) [] b = ts.flatMap (fun x => x.2 ++ [10])
  | [], _, _ => rfl
  | x :: r, h, b => by
    rw [List.flatMap_cons, h x (by simp) [] b (r.flatMap Prod.fst)]
    have e : popZ (decL []) = [] := rfl
    rw [e, wr_row r (fun z hz => h z (by simp [hz])) false]
    simp [sepS, emit, decL, popZ]
/-- So many bytes of texts. -/
def tsz (ns : List Nd) : Nat := (ns.map (fun n => n.text.size)).sum
theorem tsz_app (a b : List Nd) : tsz (a ++ b) = tsz a + tsz b := by unfold tsz; rw [List.map_append, List.sum_append]
theorem tsz_cons (n : Nd) (r : List Nd) : tsz (n :: r) = n.text.size + tsz r := by unfold tsz; rw [List.map_cons, List.sum_cons]
/-- A tree that fits, of at most so many lists one inside the other. -/
def Fi (ns : List Nd) (d : Nat) : Prop := ∀ (z : Nat) (l : List Int) (rest : List Nd), z + tsz ns ≤ 20000 → l.length + d ≤ 200 → fitF (ns ++ rest) z l = fitF rest (z + tsz ns) (popZ (decL l))
theorem fitF_go {n : Nd} {r : List Nd} {z : Nat} {l : List Int} (h1 : z + n.text.size ≤ 20000) (h2 : nodeOk n = true) (h3 : ¬ (n.kind = 1 ∧ l.length = 200)) : fitF (n :: r) z l = fitF r (z + n.text.size) (stepL n l) := by
  conv => lhs; unfold fitF
  rw [if_neg]
  rintro (h | h | h)
  · omega
  · rw [h2] at h; cases h
  · exact h3 h
theorem Fi.leaf {n : Nd} (h : n.kind ≠ 1) (hk : nodeOk n = true) (d : Nat) : Fi [n] d := by
  intro z l rest hz hl
  have e : pushL n l = decL l := by unfold pushL; rw [if_neg h]
  rw [tsz_cons] at hz ⊢
  rw [List.singleton_append, fitF_go (by omega) hk (fun e => h e.1)]
  unfold stepL
  rw [e]
  rfl
theorem Fi.mono {ns : List Nd} {d d' : Nat} (h : Fi ns d) (hd : d ≤ d') : Fi ns d' := fun z l rest hz hl => h z l rest hz (by omega)
theorem fi_some {d : Nat} : ∀ (ts : List (List Nd)) (_ : ∀ x ∈ ts, Fi x d) (_ : ts ≠ []) (m : List Int) (z : Nat) (rest : List Nd), z + tsz ts.flatten ≤ 20000 → m.length + 1 + d ≤ 200 →
    fitF (ts.flatten ++ rest) z ((ts.length : Int) :: m) = fitF rest (z + tsz ts.flatten) (popZ m)
  | [], _, h, _, _, _, _, _ => absurd rfl h
  | [x], hw, _, m, z, rest, hz, hm => by
    simp only [List.flatten_cons, List.flatten_nil, List.append_nil] at hz ⊢
    have h := hw x (by simp) z (((1 : Nat) : Int) :: m) rest hz (by simp only [List.length_cons]; omega)
    have e1 : popZ (decL ((((1 : Nat) : Int)) :: m)) = popZ m := by
      show popZ (0 :: m) = _
      simp [popZ]
    rw [e1] at h
    exact h
  | x :: y :: r, hw, _, m, z, rest, hz, hm => by
    rw [List.flatten_cons, tsz_app] at hz
    have h := hw x (by simp) z ((((x :: y :: r).length : Nat) : Int) :: m) ((y :: r).flatten ++ rest) (by omega) (by simp only [List.length_cons]; omega)
    have e1 : decL ((((x :: y :: r).length : Nat) : Int) :: m) = (((y :: r).length : Nat) : Int) :: m := by
      simp only [decL, List.length_cons]
      congr 1
      omega
    have hne : (((y :: r).length : Nat) : Int) ≠ 0 := by simp only [List.length_cons]; omega
    have e2 : popZ ((((y :: r).length : Nat) : Int) :: m) = (((y :: r).length : Nat) : Int) :: m := by unfold popZ; rw [if_neg hne]
    rw [e1, e2, fi_some (y :: r) (fun z hz => hw z (by simp [hz])) (by simp) m (z + tsz x) rest (by omega) hm] at h
    rw [List.flatten_cons, List.append_assoc, h, tsz_app, Nat.add_assoc]
theorem nodeOk_list (k : Nat) : nodeOk (listN k) = true := by
  simp [nodeOk, listN, wordOk, Nd.t]
theorem Fi.list (ts : List (List Nd)) {d : Nat} (h : ∀ x ∈ ts, Fi x d) : Fi (listN ts.length :: ts.flatten) (d + 1) := by
  intro z l rest hz hl
  have e : pushL (listN ts.length) l = (ts.length : Int) :: decL l := by unfold pushL listN; rw [if_pos rfl]
  have e0 : (listN ts.length).text.size = 0 := rfl
  rw [tsz_cons, e0, Nat.zero_add] at hz ⊢
  rw [List.cons_append, fitF_go (by omega) (nodeOk_list _) (by omega), e0, Nat.add_zero]
  unfold stepL
  rw [e]
  by_cases hn : ts = []
  · subst hn
    have e2 : popZ (((([] : List (List Nd)).length : Nat) : Int) :: decL l) = popZ (decL l) := by simp [popZ]
    rw [e2]
    rfl
  · have hne : ((ts.length : Nat) : Int) ≠ 0 := by
      have := List.length_pos_iff.2 hn
      omega
    have e2 : popZ (((ts.length : Nat) : Int) :: decL l) = ((ts.length : Nat) : Int) :: decL l := by unfold popZ; rw [if_neg hne]
    rw [e2]
    exact fi_some ts h hn (decL l) z rest hz (by rw [decL_len]; omega)
theorem fi_row {d : Nat} (hd : d ≤ 200) : ∀ (ts : List (List Nd)) (_ : ∀ x ∈ ts, Fi x d) (z : Nat), z + tsz ts.flatten ≤ 20000 → fitF ts.flatten z [] = true
  | [], _, _, _ => rfl
  | x :: r, h, z, hz => by
    rw [List.flatten_cons, tsz_app] at hz
    rw [List.flatten_cons, h x (by simp) z [] r.flatten (by omega) (by simpa using hd)]
    exact fi_row hd r (fun y hy => h y (by simp [hy])) (z + tsz x) (by omega)
end Go.Proofs.YtdphpfffofeklaaDoor.P
