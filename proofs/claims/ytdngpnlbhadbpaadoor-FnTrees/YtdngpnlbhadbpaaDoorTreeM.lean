import Derived.Test.YtdngpnlbhadbpaaDoorRows
import Derived.WalkKit
import Derived.WalkSpells
import Derived.ProofKit
import Derived.OpenShut
import Derived.ShutString
import Derived.Below
import Derived.Lib.Strings
import Derived.Lib.IndexBytes
namespace Go.Proofs.YtdngpnlbhadbpaaDoor
open Go.ChangeShapes Go.WideShapes Go.ChangeAt Go.RowKit
/-- How many bytes at the beginning are all of one sort. -/
def runL (p : UInt8 → Bool) : List UInt8 → Nat
  | [] => 0
  | c :: r => if p c then runL p r + 1 else 0
theorem runL_le (p : UInt8 → Bool) (l : List UInt8) : runL p l ≤ l.length := by
  induction l with
  | nil => exact Nat.le_refl _
  | cons c r ih => unfold runL; split <;> simp <;> omega
theorem runL_all {p : UInt8 → Bool} {l : List UInt8} (h : l.all p = true) : runL p l = l.length := by
  induction l with
  | nil => rfl
  | cons c r ih =>
    simp only [List.all_cons, Bool.and_eq_true] at h
    unfold runL; rw [if_pos h.1, ih h.2]; rfl
theorem runL_eq_len {p : UInt8 → Bool} {l : List UInt8} (h : runL p l = l.length) : l.all p = true := by
  induction l with
  | nil => rfl
  | cons c r ih =>
    unfold runL at h
    split at h
    · rename_i hc
      simp only [List.length_cons, Nat.add_right_cancel_iff] at h
      simp [hc, ih h]
    · simp at h
theorem runL_iff {p : UInt8 → Bool} {l : List UInt8} : runL p l = l.length ↔ l.all p = true := ⟨runL_eq_len, runL_all⟩
/-- Where a loop over the bytes stops. -/
theorem runL_at {p : UInt8 → Bool} : ∀ {l : List UInt8} {i : Nat}, i ≤ l.length → (∀ j (h : j < l.length), j < i → p l[j] = true) → (∀ h : i < l.length, p l[i] = false) → runL p l = i
  | [], i, hi, _, _ => by simp at hi; subst hi; rfl
  | c :: r, 0, _, _, h => by
    have := h (by simp)
    unfold runL; rw [if_neg (by simpa using this)]
  | c :: r, i + 1, hi, ha, h => by
    have h0 := ha 0 (by simp) (by omega)
    simp only [List.getElem_cons_zero] at h0
    unfold runL; rw [if_pos h0, runL_at (l := r) (i := i) (by simpa using hi) (fun j hj hji => ?_) (fun hj => ?_)]
    · have := ha (j + 1) (by simpa using hj) (by omega)
      simpa using this
    · have := h (by simpa using hj)
      simpa using this
theorem runL_lt {p : UInt8 → Bool} : ∀ {l : List UInt8}, (h : runL p l < l.length) → p l[runL p l] = false
  | [], h => by simp [runL] at h
  | c :: r, h => by
    by_cases hc : p c = true
    · have e : runL p (c :: r) = runL p r + 1 := by simp [runL, hc]
      have h' : runL p r < r.length := by rw [e] at h; simpa using h
      have := runL_lt h'
      simp only [e, List.getElem_cons_succ]; exact this
    · have e : runL p (c :: r) = 0 := by simp [runL, hc]
      simp only [e, List.getElem_cons_zero]; simpa using hc
theorem runL_append {p : UInt8 → Bool} {l r : List UInt8} (h : l.all p = true) : runL p (l ++ r) = l.length + runL p r := by
  induction l with
  | nil => simp
  | cons c k ih =>
    simp only [List.all_cons, Bool.and_eq_true] at h
    simp only [List.cons_append, runL, if_pos h.1, ih h.2, List.length_cons]; omega
theorem runL_append_lt {p : UInt8 → Bool} {l r : List UInt8} (h : l.all p = false) : runL p (l ++ r) = runL p l := by
  induction l with
  | nil => simp at h
  | cons c k ih =>
    by_cases hc : p c = true
    · simp only [List.all_cons, hc, Bool.true_and] at h
      simp only [List.cons_append, runL, if_pos hc, ih h]
    · simp only [List.cons_append, runL, if_neg hc]
/-- The bytes. -/
def dg (c : UInt8) : Bool := decide (48 ≤ c.toNat) && decide (c.toNat ≤ 57)
def bitB (c : UInt8) : Bool := decide (c.toNat = 48) || decide (c.toNat = 49)
def shown (c : UInt8) : Bool := decide (32 ≤ c.toNat) && decide (c.toNat ≤ 126)
def textB (c : UInt8) : Bool := shown c || decide (c.toNat = 10)
def barB (c : UInt8) : Bool := shown c && !decide (c.toNat = 124) && !decide (c.toNat = 92)
def moreB : List UInt8 := [43, 45, 42, 47, 61, 37, 63, 33, 46, 36, 95, 126, 38, 94, 60, 62, 64]
def nameB (c : UInt8) : Bool := (decide (97 ≤ c.toNat) && decide (c.toNat ≤ 122)) || (decide (65 ≤ c.toNat) && decide (c.toNat ≤ 90)) || dg c || moreB.contains c
theorem nameB_bar {c : UInt8} (h : nameB c = true) : barB c = true := by
  have k : ∀ n : Fin 256, nameB (UInt8.ofNat n.val) = true → barB (UInt8.ofNat n.val) = true := by decide +kernel
  have e : UInt8.ofNat c.toNat = c := by simp
  have := k ⟨c.toNat, c.toNat_lt⟩
  simp only [e] at this
  exact this h
theorem all_imp {p q : UInt8 → Bool} (h : ∀ c, p c = true → q c = true) {l : List UInt8} (hl : l.all p = true) : l.all q = true := by
  rw [List.all_eq_true] at hl ⊢
  exact fun x hx => h x (hl x hx)
/-- A text's inside, behind its first mark: what stands there, and how many bytes up to the mark at its end. -/
def scanT : List UInt8 → Option (List UInt8 × Nat)
  | [] => none
  | c :: r =>
    if c = 34 then
      match r with
      | d :: r' => if d = 34 then (scanT r').map (fun x => (34 :: x.1, x.2 + 2)) else some ([], 1)
      | [] => some ([], 1)
    else if textB c then (scanT r).map (fun x => (c :: x.1, x.2 + 1)) else none
def dbl : List UInt8 → List UInt8
  | [] => []
  | c :: r => if c = 34 then 34 :: 34 :: dbl r else c :: dbl r
theorem scanT_other {c : UInt8} {r : List UInt8} (h : c ≠ 34) : scanT (c :: r) = if textB c then (scanT r).map (fun x => (c :: x.1, x.2 + 1)) else none := by
  cases r <;> (rw [scanT.eq_def]; simp [h])
theorem scanT_two (r : List UInt8) : scanT (34 :: 34 :: r) = (scanT r).map (fun x => (34 :: x.1, x.2 + 2)) := by
  rw [scanT.eq_def]; simp
theorem scanT_one {d : UInt8} {r : List UInt8} (h : d ≠ 34) : scanT (34 :: d :: r) = some ([], 1) := by
  rw [scanT.eq_def]; simp [h]
theorem scanT_end : scanT [34] = some ([], 1) := by
  rw [scanT.eq_def]; simp
theorem scanT_dbl (t : List UInt8) : scanT (dbl t ++ [34]) = if t.all textB then some (t, (dbl t).length + 1) else none := by
  induction t with
  | nil => simp [dbl, scanT_end]
  | cons c r ih =>
    by_cases hc : c = 34
    · subst hc
      have h34 : textB 34 = true := by decide
      simp only [dbl, if_pos, List.cons_append, scanT_two, ih, List.all_cons, h34, Bool.true_and]
      split <;> simp
    · simp only [dbl, if_neg hc, List.cons_append, scanT_other hc, ih, List.all_cons]
      by_cases ht : textB c = true
      · simp only [ht, Bool.true_and, if_true]
        split <;> simp
      · simp [ht]
/-- Whether a node's text is of its kind. -/
def numOk (dec : Bool) (t : List UInt8) : Bool :=
  let k := runL dg t
  decide (0 < k) && !(decide (1 < k) && decide (t.head? = some 48)) &&
  (let m := match t.drop k with | c :: r => if c = 46 then runL dg r else 0 | [] => 0
   if dec then decide (0 < m) && decide (k + 1 + m = t.length) else decide (m = 0) && decide (k = t.length))
def wordOk (kind : Int) (t : List UInt8) : Bool :=
  if kind = 1 then t.isEmpty
  else if kind = 2 then t.all barB
  else if kind = 3 then numOk false t
  else if kind = 4 then numOk true t
  else if kind = 5 then !t.isEmpty && t.all bitB
  else if kind = 6 then t.all textB
  else if kind = 7 then !t.isEmpty && t.all nameB
  else false
/-- A node, but for its place. -/
structure Nd where
  kind : Int
  text : ByteArray
  kids : Int
def Nd.t (n : Nd) : List UInt8 := n.text.data.toList
def plainN (t : List UInt8) : Bool := !t.isEmpty && !(t.head?.any dg) && t.all nameB
def tokT (kind : Int) (t : List UInt8) : List UInt8 :=
  if kind = 1 then [40]
  else if kind = 2 then (if plainN t then t else 124 :: (t ++ [124]))
  else if kind = 3 ∨ kind = 4 then t
  else if kind = 5 then 35 :: 98 :: t
  else if kind = 6 then 34 :: (dbl t ++ [34])
  else if kind = 7 then 58 :: t
  else []
/-- The lists that are open, the innermost first: how many members are still to come. -/
def decL : List Int → List Int
  | [] => []
  | a :: r => (a - 1) :: r
def pushL (n : Nd) (l : List Int) : List Int := if n.kind = 1 then n.kids :: decL l else decL l
def popZ : List Int → List Int
  | [] => []
  | a :: r => if a = 0 then popZ r else a :: r
def stepL (n : Nd) (l : List Int) : List Int := popZ (pushL n l)
def closedL (n : Nd) (l : List Int) : Nat := (pushL n l).length - (stepL n l).length
theorem popZ_len (l : List Int) : (popZ l).length ≤ l.length := by
  induction l with
  | nil => exact Nat.le_refl _
  | cons a r ih => unfold popZ; split <;> simp <;> omega
theorem decL_len (l : List Int) : (decL l).length = l.length := by cases l <;> rfl
theorem pushL_len (n : Nd) (l : List Int) : (pushL n l).length = l.length + (if n.kind = 1 then 1 else 0) := by
  unfold pushL; split <;> simp [decL_len]
theorem popZ_head {l : List Int} {a : Int} {r : List Int} (h : popZ l = a :: r) : a ≠ 0 := by
  induction l with
  | nil => simp [popZ] at h
  | cons b k ih =>
    unfold popZ at h
    split at h
    · exact ih h
    · simp only [List.cons.injEq] at h; rw [← h.1]; assumption
theorem popZ_mem {l : List Int} {x : Int} (h : x ∈ popZ l) : x ∈ l := by
  induction l with
  | nil => exact h
  | cons b k ih =>
    unfold popZ at h
    split at h
    · exact List.mem_cons_of_mem _ (ih h)
    · exact h
def posL (l : List Int) : Prop := (∀ x ∈ l, 0 ≤ x ∧ x ≤ 9223372036854775807) ∧ ∀ a r, l = a :: r → 1 ≤ a
theorem popZ_pos {l : List Int} (h : ∀ x ∈ l, 0 ≤ x ∧ x ≤ 9223372036854775807) : posL (popZ l) := by
  refine ⟨fun x hx => h x (popZ_mem hx), fun a r e => ?_⟩
  have h0 := popZ_head e
  have h1 := h a (popZ_mem (by rw [e]; simp))
  omega
theorem pushL_nat {n : Nd} {l : List Int} (hl : posL l) (h0 : 0 ≤ n.kids) (h1 : n.kids ≤ 9223372036854775807) : ∀ x ∈ pushL n l, 0 ≤ x ∧ x ≤ 9223372036854775807 := by
  have h2 : ∀ x ∈ decL l, 0 ≤ x ∧ x ≤ 9223372036854775807 := by
    cases l with
    | nil => intro x hx; simp [decL] at hx
    | cons a r =>
      have ha := hl.1 a (by simp)
      have hb := hl.2 a r rfl
      intro x hx
      simp only [decL, List.mem_cons] at hx
      rcases hx with rfl | e
      · omega
      · exact hl.1 x (List.mem_cons_of_mem _ e)
  unfold pushL
  split
  · intro x hx
    rcases List.mem_cons.1 hx with rfl | e
    · exact ⟨h0, h1⟩
    · exact h2 x e
  · exact h2
/-- Behind a step the innermost list that is open has members still to come. -/
theorem stepL_pos {n : Nd} {l : List Int} (hl : posL l) (h0 : 0 ≤ n.kids) (h1 : n.kids ≤ 9223372036854775807) : posL (stepL n l) := popZ_pos (pushL_nat hl h0 h1)
/-- All that GoodTree asks but the size of what is written. -/
def nodeOk (n : Nd) : Bool := decide (0 ≤ n.kids) && (decide (n.kind = 1) || decide (n.kids = 0)) && wordOk n.kind n.t
def fitF : List Nd → Nat → List Int → Bool
  | [], _, l => l.isEmpty
  | n :: r, z, l => if 20000 < z + n.text.size ∨ nodeOk n = false ∨ (n.kind = 1 ∧ l.length = 200) then false else fitF r (z + n.text.size) (stepL n l)
def fits (ns : List Nd) : Bool := decide (ns.length ≤ 8000) && fitF ns 0 []
/-- What is written: the program's way. -/
def sepI (n : Nd) (l : List Int) : List UInt8 := if (stepL n l).isEmpty then [10] else if n.kind ≠ 1 ∨ 0 < closedL n l then [32] else []
def rowI : List Nd → List Int → List UInt8
  | [], _ => []
  | n :: r, l => tokT n.kind n.t ++ List.replicate (closedL n l) 41 ++ sepI n l ++ rowI r (stepL n l)
/-- The specification's way: 'b': whether what is written so far ends in a bracket that opens. -/
def rowS : List Nd → List Int → Bool → List UInt8
  | [], _, _ => []
  | n :: r, l, b => (if l.isEmpty || b then [] else [32]) ++ tokT n.kind n.t ++ List.replicate (closedL n l) 41 ++ (if (stepL n l).isEmpty then [10] else []) ++
      rowS r (stepL n l) (decide (n.kind = 1) && decide (closedL n l = 0))
theorem rowS_row (ns : List Nd) : ∀ (z : Nat) (l : List Int) (b : Bool), fitF ns z l = true → (if l.isEmpty || b then [] else [32]) ++ rowI ns l = rowS ns l b ++ (if ns.isEmpty then (if l.isEmpty || b then [] else [32]) else []) := by
  induction ns with
  | nil => intro z l b _; simp [rowI, rowS]
  | cons n r ih =>
    intro z l b h
    unfold fitF at h
    split at h
    · cases h
    · rename_i hc
      have k := ih (z + n.text.size) (stepL n l) (decide (n.kind = 1) && decide (closedL n l = 0)) h
      have e : rowI r (stepL n l) = (if r.isEmpty && (stepL n l).isEmpty then [] else rowI r (stepL n l)) := by
        split
        · rename_i h; simp only [Bool.and_eq_true, List.isEmpty_iff] at h; rw [h.1]; rfl
        · rfl
      simp only [rowI, rowS, List.isEmpty_cons, Bool.false_eq_true, if_false, List.append_nil, List.append_assoc]
      congr 2; congr 1
      unfold sepI
      by_cases hs : (stepL n l).isEmpty = true
      · simp only [hs, if_true, Bool.true_or, List.nil_append] at k ⊢
        rw [k]; simp
      · have hs' : (stepL n l).isEmpty = false := by simpa using hs
        have hr : r.isEmpty = false := by
          cases r with
          | nil => simp [fitF, hs'] at h
          | cons _ _ => rfl
        simp only [hs', hr, Bool.false_eq_true, if_false, Bool.false_or, List.nil_append, List.append_nil] at k ⊢
        rw [← k]
        by_cases h1 : n.kind = 1
        · by_cases h2 : closedL n l = 0
          · simp [h1, h2]
          · have : 0 < closedL n l := by omega
            simp [h1, h2, this]
        · simp [h1]
theorem rowS_eq {ns : List Nd} {z : Nat} (h : fitF ns z [] = true) : rowS ns [] true = rowI ns [] := by
  have := rowS_row ns z [] true h
  simpa using this.symm
end Go.Proofs.YtdngpnlbhadbpaaDoor
