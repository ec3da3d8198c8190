import Derived.Test.YtdphpfffofeklaaDoorPtS
import Derived.Test.YtdphpfffofeklaaDoorPtL
import Derived.Test.YtdphpfffofeklaaDoorTb
namespace Go.Proofs.YtdphpfffofeklaaDoor.P
open Go.ChangeShapes Go.WideShapes Go.ChangeAt Go.RowKit
open T (Nd rowS fitF)
open L (strOf strOf_toList strOf_size Tn hidG)
theorem gd_tn {f : Tn} (hc : r64 f.col) (h : tnOk f = true) : Gd 2 (tnP f) := by
  unfold tnOk at h
  unfold tnP
  split
  · rename_i hl
    rw [if_pos hl] at h
    refine gd_list (d := 1) _ (fun x hx => ?_)
    rcases List.mem_cons.1 hx with rfl | hx
    · exact (gd_name (by decide)).mono (Nat.zero_le _)
    · obtain ⟨m, hm, rfl⟩ := List.mem_map.1 hx
      exact gd_in (List.all_eq_true.1 h m hm)
  · rename_i hl
    rw [if_neg hl] at h
    simp only [Bool.and_eq_true] at h
    refine gd_list (d := 1) _ (fun x hx => ?_)
    simp only [List.mem_cons, List.not_mem_nil, or_false] at hx
    rcases hx with rfl | rfl | rfl
    · exact (gd_name (by decide)).mono (Nat.zero_le _)
    · exact gd_in (itoa_isI _ hc.1 hc.2).1
    · exact gd_in h.2
theorem gd_lem {f : Lm} (hb : LmB f) (h : lemOk f = true) : Gd 4 (lemP f) := by
  unfold lemOk at h
  simp only [Bool.and_eq_true] at h
  obtain ⟨⟨⟨hk, -⟩, -⟩, ht⟩ := h
  refine gd_list (d := 3) _ (fun x hx => ?_)
  simp only [List.mem_cons, List.not_mem_nil, or_false] at hx
  rcases hx with rfl | rfl | rfl | rfl
  · refine (gd_name ?_).mono (Nat.zero_le _)
    unfold kdOk at hk
    simp only [Bool.or_eq_true, decide_eq_true_eq] at hk
    rcases hk with (e | e) | e <;> rw [e] <;> decide
  · refine (gd_list (d := 1) _ (fun x hx => ?_)).mono (by omega)
    obtain ⟨m, hm, rfl⟩ := List.mem_map.1 hx
    exact gd_in (itoa_isI _ (hb.2.1 m hm).1 (hb.2.1 m hm).2).1
  · refine (gd_list (d := 1) _ (fun x hx => ?_)).mono (by omega)
    obtain ⟨m, hm, rfl⟩ := List.mem_map.1 hx
    exact gd_in (itoa_isI _ (hb.2.2.1 m hm).1 (hb.2.2.1 m hm).2).1
  · refine gd_list (d := 2) _ (fun x hx => ?_)
    obtain ⟨m, hm, rfl⟩ := List.mem_map.1 hx
    exact gd_tn (hb.2.2.2.1 m hm) (List.all_eq_true.1 ht m hm)
def nodesL (F : List Lm) (i : Nat) : List Nd := (F.take i).flatMap (fun l => (lemP l).1)
theorem nodesL_succ {F : List Lm} {i : Nat} (h : i < F.length) : nodesL F (i + 1) = nodesL F i ++ (lemP F[i]).1 := flat_succ _ h
theorem nodes_sizes {F : List Lm} (hb : ∀ f ∈ F, LmB f) : ∀ i, i ≤ F.length → (∀ j (h : j < F.length), j < i → lemOk F[j] = true) → szN (nodesL F i) ≤ (linesT (F.take i)).length ∧ (nodesL F i).length ≤ szN (nodesL F i) ∧ tsz (nodesL F i) ≤ szN (nodesL F i)
  | 0, _, _ => ⟨Nat.zero_le _, Nat.le_refl _, Nat.le_refl _⟩
  | i + 1, hi, h => by
    have hlt : i < F.length := by omega
    obtain ⟨h1, h2, h3⟩ := nodes_sizes hb i (by omega) (fun j hj hji => h j hj (by omega))
    have g := gd_lem (hb _ (List.getElem_mem hlt)) (h i hlt (by omega))
    have := g.sz
    have := g.nn
    have := g.ts
    rw [nodesL_succ hlt, lines_snoc hlt, szN_app, tsz_app, List.length_append, List.length_append, List.length_append]
    omega
theorem flat_map_fst (F : List Lm) : F.flatMap (fun l => (lemP l).1) = (F.map lemP).flatMap Prod.fst := by rw [List.flatMap_map]
theorem nodes_row {F : List Lm} (hb : ∀ f ∈ F, LmB f) (h : ∀ j (h : j < F.length), lemOk F[j] = true) : rowS (nodesL F F.length) [] true = linesT F := by
  unfold nodesL
  rw [List.take_of_length_le (Nat.le_refl _), flat_map_fst, wr_row _ (fun x hx => ?_)]
  · unfold linesT
    rw [List.flatMap_map]
  · obtain ⟨l, hl, rfl⟩ := List.mem_map.1 hx
    obtain ⟨j, hj, rfl⟩ := List.getElem_of_mem hl
    exact (gd_lem (hb _ (List.getElem_mem hj)) (h j hj)).wr
theorem nodes_fit {F : List Lm} (hb : ∀ f ∈ F, LmB f) (h : ∀ j (h : j < F.length), lemOk F[j] = true) (hs : szN (nodesL F F.length) ≤ 20000) : fitF (nodesL F F.length) 0 [] = true := by
  have ht := (nodes_sizes hb F.length (Nat.le_refl _) (fun j hj _ => h j hj)).2.2
  have e : nodesL F F.length = (F.map (fun l => (lemP l).1)).flatten := by
    unfold nodesL
    rw [List.take_of_length_le (Nat.le_refl _), List.flatMap_def]
  rw [e] at ht hs ⊢
  refine fi_row (d := 4) (by omega) _ (fun x hx => ?_) 0 (by omega)
  obtain ⟨l, hl, rfl⟩ := List.mem_map.1 hx
  obtain ⟨j, hj, rfl⟩ := List.getElem_of_mem hl
  exact (gd_lem (hb _ (List.getElem_mem hj)) (h j hj)).fi
/-- No list has too many members. -/
def Kd (ns : List Nd) : Prop := ∀ n ∈ ns, n.kids ≤ 2000000
theorem kd_app {a b : List Nd} (h1 : Kd a) (h2 : Kd b) : Kd (a ++ b) := fun n hn => by
  rcases List.mem_append.1 hn with h | h
  · exact h1 n h
  · exact h2 n h
theorem kd_list {ts : List Pr} (hl : ts.length ≤ 2000000) (h : ∀ x ∈ ts, Kd x.1) : Kd (lsP ts).1 := fun n hn => by
  have hn' : n ∈ listN ts.length :: ts.flatMap Prod.fst := hn
  rcases List.mem_cons.1 hn' with rfl | hn
  · show ((ts.length : Nat) : Int) ≤ 2000000
    omega
  · obtain ⟨x, hx, hm⟩ := List.mem_flatMap.1 hn
    exact h x hx n hm
theorem kd_name (t : List UInt8) : Kd (nmP t).1 := fun n hn => by
  have : n = nameN t := by simpa [nmP] using hn
  rw [this]
  show (0 : Int) ≤ 2000000
  omega
theorem kd_in (s : List UInt8) : Kd (inP s).1 := fun n hn => by
  have hn' : n ∈ intN s := hn
  unfold intN at hn'
  split at hn'
  · simp only [List.mem_cons, List.not_mem_nil, or_false] at hn'
    rcases hn' with rfl | rfl | rfl
    · show ((2 : Nat) : Int) ≤ 2000000; omega
    · show (0 : Int) ≤ 2000000; omega
    · show (0 : Int) ≤ 2000000; omega
  · simp only [List.mem_cons, List.not_mem_nil, or_false] at hn'
    rw [hn']
    show (0 : Int) ≤ 2000000
    omega
theorem kd_lem {f : Lm} (hb : LmB f) : Kd (lemP f).1 := by
  have hw := hb.2.2.2.2
  have hl : f.lits.length ≤ 1048576 ∧ f.chain.length ≤ 1048576 ∧ f.tree.length ≤ 1048576 := by unfold wtL wtTs at hw; omega
  refine kd_list (by simp) (fun x hx => ?_)
  simp only [List.mem_cons, List.not_mem_nil, or_false] at hx
  rcases hx with rfl | rfl | rfl | rfl
  · exact kd_name _
  · refine kd_list (by rw [List.length_map]; omega) (fun x hx => ?_)
    obtain ⟨m, -, rfl⟩ := List.mem_map.1 hx
    exact kd_in _
  · refine kd_list (by rw [List.length_map]; omega) (fun x hx => ?_)
    obtain ⟨m, -, rfl⟩ := List.mem_map.1 hx
    exact kd_in _
  · refine kd_list (by rw [List.length_map]; omega) (fun x hx => ?_)
    obtain ⟨t, ht, rfl⟩ := List.mem_map.1 hx
    have h2 : wtT t ≤ (f.tree.map wtT).sum := le_sum (List.mem_map.2 ⟨t, ht, rfl⟩)
    have h4 : t.mu.length ≤ wtT t := by unfold wtT wtS; omega
    have h3 : t.mu.length ≤ 1048576 := by unfold wtL wtTs at hw; omega
    unfold tnP
    split
    · refine kd_list (by rw [List.length_cons, List.length_map]; omega) (fun x hx => ?_)
      rcases List.mem_cons.1 hx with rfl | hx
      · exact kd_name _
      · obtain ⟨m, -, rfl⟩ := List.mem_map.1 hx
        exact kd_in _
    · refine kd_list (by simp) (fun x hx => ?_)
      simp only [List.mem_cons, List.not_mem_nil, or_false] at hx
      rcases hx with rfl | rfl | rfl
      · exact kd_name _
      · exact kd_in _
      · exact kd_in _
theorem kd_nodes {F : List Lm} (hb : ∀ f ∈ F, LmB f) (i : Nat) : Kd (nodesL F i) := fun n hn => by
  obtain ⟨l, hl, hm⟩ := List.mem_flatMap.1 hn
  exact kd_lem (hb l (List.mem_of_mem_take hl)) n hm
theorem tsz_mem {ns : List Nd} {n : Nd} (h : n ∈ ns) : n.text.size ≤ tsz ns := by
  unfold tsz
  exact le_sum (List.mem_map.2 ⟨n, h, rfl⟩)
end Go.Proofs.YtdphpfffofeklaaDoor.P
