import Derived.Test.YtdphpfffofeklaaDoorPtR
import Derived.Deep.CutBlock
namespace Go.Proofs.YtdphpfffofeklaaDoor.P
open Go.ChangeShapes Go.WideShapes Go.ChangeAt Go.RowKit
open T (Nd)
open L (strOf strOf_toList strOf_size Tn hidG below_alloc Bx bx_new StrsAt TreeAt strsC strs_at row_below own_lower own_other' own_base up_alloc)
def litsX (L : List Int) (i : Nat) : List Nd := (L.take i).flatMap (fun n => intN (Lib.itoa n))
def litsB (L : List Int) (i : Nat) : Bool := (L.take i).all (fun n => decide (n ≠ 0))
def chB (L : List Int) (i : Nat) : Bool := (L.take i).all (fun n => decide (0 ≤ n))
def treeX (F : List Tn) (i : Nat) : List Nd := (F.take i).flatMap (fun f => (tnP f).1)
def treeB (F : List Tn) (i : Nat) : Bool := (F.take i).all tnOk
def muX (M : List (List UInt8)) (i : Nat) : List Nd := (M.take i).flatMap intN
def muB (M : List (List UInt8)) (i : Nat) : Bool := (M.take i).all isI
theorem flat_succ {α : Type} (g : α → List Nd) {l : List α} {i : Nat} (h : i < l.length) : (l.take (i + 1)).flatMap g = (l.take i).flatMap g ++ g l[i] := by
  rw [List.take_succ_eq_append_getElem h, List.flatMap_append]; simp
theorem all_succ {α : Type} (g : α → Bool) {l : List α} {i : Nat} (h : i < l.length) : (l.take (i + 1)).all g = ((l.take i).all g && g l[i]) := by
  rw [List.take_succ_eq_append_getElem h, List.all_append]; simp
theorem litsX_succ {L : List Int} {i : Nat} (h : i < L.length) : litsX L (i + 1) = litsX L i ++ intN (Lib.itoa L[i]) := flat_succ _ h
theorem litsB_succ {L : List Int} {i : Nat} (h : i < L.length) : litsB L (i + 1) = (litsB L i && decide (L[i] ≠ 0)) := all_succ _ h
theorem chB_succ {L : List Int} {i : Nat} (h : i < L.length) : chB L (i + 1) = (chB L i && decide (0 ≤ L[i])) := all_succ _ h
theorem treeX_succ {F : List Tn} {i : Nat} (h : i < F.length) : treeX F (i + 1) = treeX F i ++ (tnP F[i]).1 := flat_succ _ h
theorem treeB_succ {F : List Tn} {i : Nat} (h : i < F.length) : treeB F (i + 1) = (treeB F i && tnOk F[i]) := all_succ _ h
theorem muX_succ {M : List (List UInt8)} {i : Nat} (h : i < M.length) : muX M (i + 1) = muX M i ++ intN M[i] := flat_succ _ h
theorem muB_succ {M : List (List UInt8)} {i : Nat} (h : i < M.length) : muB M (i + 1) = (muB M i && isI M[i]) := all_succ _ h
theorem litsX_all (L : List Int) : litsX L L.length = L.flatMap (fun n => intN (Lib.itoa n)) := by unfold litsX; rw [List.take_of_length_le (Nat.le_refl _)]
theorem litsB_all (L : List Int) : litsB L L.length = !L.contains 0 := by
  unfold litsB
  rw [List.take_of_length_le (Nat.le_refl _), Bool.eq_iff_iff, List.all_eq_true]
  simp only [decide_eq_true_eq, Bool.not_eq_true', ← Bool.not_eq_true, List.contains_iff_mem]
  constructor
  · intro h hm; exact h 0 hm rfl
  · intro h x hx e; subst e; exact h hx
theorem chB_all (L : List Int) : chB L L.length = L.all (fun n => decide (0 ≤ n)) := by unfold chB; rw [List.take_of_length_le (Nat.le_refl _)]
theorem treeX_all (F : List Tn) : treeX F F.length = F.flatMap (fun f => (tnP f).1) := by unfold treeX; rw [List.take_of_length_le (Nat.le_refl _)]
theorem treeB_all (F : List Tn) : treeB F F.length = F.all tnOk := by unfold treeB; rw [List.take_of_length_le (Nat.le_refl _)]
theorem muX_all (M : List (List UInt8)) : muX M M.length = M.flatMap intN := by unfold muX; rw [List.take_of_length_le (Nat.le_refl _)]
theorem muB_all (M : List (List UInt8)) : muB M M.length = M.all isI := by unfold muB; rw [List.take_of_length_le (Nat.le_refl _)]
theorem lemP_nodes (f : Lm) : (lemP f).1 = [listN 4, nameN (kn f.kind), listN f.lits.length] ++ litsX f.lits f.lits.length ++ [listN f.chain.length] ++ litsX f.chain f.chain.length ++ [listN f.tree.length] ++ treeX f.tree f.tree.length := by
  rw [litsX_all, litsX_all, treeX_all]
  unfold lemP lsP nmP
  simp only [List.length_cons, List.length_nil, List.length_map, List.flatMap_cons, List.flatMap_nil, List.append_nil, List.flatMap_map]
  simp [liP, inP]
theorem tnP_leafN {f : Tn} (h : isLf f = true) : (tnP f).1 = [listN (1 + f.mu.length), nameN leafB] ++ muX f.mu f.mu.length := by
  rw [muX_all]
  unfold tnP
  rw [if_pos h]
  unfold lsP nmP
  simp only [List.length_cons, List.length_map, List.flatMap_cons, List.flatMap_map]
  simp [inP, Nat.add_comm]
theorem tnP_branchN {f : Tn} (h : isLf f = false) : (tnP f).1 = [listN 3, nameN branchB] ++ intN (Lib.itoa f.col) ++ intN f.pl := by
  unfold tnP
  rw [h]
  unfold lsP nmP inP
  simp
theorem treeB_bad {F : List Tn} {i : Nat} (h : treeB F i = false) : F.all tnOk = false := by
  rw [Bool.eq_false_iff] at h ⊢
  intro e
  apply h
  unfold treeB
  rw [List.all_eq_true] at e ⊢
  exact fun x hx => e x (List.mem_of_mem_take hx)
theorem treeX_le (F : List Tn) (i : Nat) : szN (treeX F i) ≤ szN (treeX F F.length) := by
  rw [treeX_all]
  unfold treeX
  conv => rhs; rw [← List.take_append_drop i F]
  rw [List.flatMap_append, szN_app]
  omega
end Go.Proofs.YtdphpfffofeklaaDoor.P
