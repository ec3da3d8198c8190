import Derived.Test.YtdphpfffofeklaaDoorRows
import Derived.WalkKit
import Derived.WalkSpells
import Derived.ProofKit
import Derived.OpenShut
import Derived.ShutString
import Derived.Below
import Derived.Lib.Strings
import Derived.Lib.IndexBytes
import Derived.Lib.IndexLaws
import Derived.Lib.Bytealg
import Derived.Lib.UnsafeStr
import Derived.Maps.AppendAt
import Derived.OwnWalk
import Derived.Laws.AppendOwn
import Derived.WalkSmall
import Derived.Laws.OwnMore
import Derived.RangeFuncBox
import Derived.WalkMore
import Derived.Deep.RegionHeld3
import Derived.Deep.RegionLaw
import Derived.Deep.AppendLies
import Derived.Lib.OthersKept
import Derived.Lib.AppendStr
namespace Go.Proofs.YtdphpfffofeklaaDoor.T
open Go.ChangeShapes Go.WideShapes Go.ChangeAt Go.RowKit
/-- How many bytes at the beginning are all of one sort. -/
def runL (p : UInt8 → Bool) : List UInt8 → Nat
  | [] => 0
  | c :: r => if p c then runL p r + 1 else 0
theorem runL_le (p : UInt8 → Bool) (l : List UInt8) : runL p l ≤ l.length := by
  induction l with
  | nil => exact Nat.le_refl _
  | cons c r ih => unfold runL; split <;> simp <;> omega
theorem runL_all {p : UInt8 → Bool} {l : List UInt8} (h : l.all p = true) : runL p l = l.length := by
  induction l with
  | nil => rfl
  | cons c r ih =>
    simp only [List.all_cons, Bool.and_eq_true] at h
    unfold runL; rw [if_pos h.1, ih h.2]; rfl
theorem runL_eq_len {p : UInt8 → Bool} {l : List UInt8} (h : runL p l = l.length) : l.all p = true := by
  induction l with
  | nil => rfl
  | cons c r ih =>
    unfold runL at h
    split at h
    · rename_i hc
      simp only [List.length_cons, Nat.add_right_cancel_iff] at h
      simp [hc, ih h]
    · simp at h
theorem runL_iff {p : UInt8 → Bool} {l : List UInt8} : runL p l = l.length ↔ l.all p = true := ⟨runL_eq_len, runL_all⟩
/-- Where a loop over the bytes stops. -/
theorem runL_at {p : UInt8 → Bool} : ∀ {l : List UInt8} {i : Nat}, i ≤ l.length → (∀ j (h : j < l.length), j < i → p l[j] = true) → (∀ h : i < l.length, p l[i] = false) → runL p l = i
  | [], i, hi, _, _ => by simp at hi; subst hi; rfl
  | c :: r, 0, _, _, h => by
    have := h (by simp)
    unfold runL; rw [if_neg (by simpa using this)]
  | c :: r, i + 1, hi, ha, h => by
    have h0 := ha 0 (by simp) (by omega)
    simp only [List.getElem_cons_zero] at h0
    unfold runL; rw [if_pos h0, runL_at (l := r) (i := i) (by simpa using hi) (fun j hj hji => ?_) (fun hj => ?_)]
    · have := ha (j + 1) (by simpa using hj) (by omega)
      simpa using this
    · have := h (by simpa using hj)
      simpa using this
theorem runL_lt {p : UInt8 → Bool} : ∀ {l : List UInt8}, (h : runL p l < l.length) → p l[runL p l] = false
  | [], h => by simp [runL] at h
  | c :: r, h => by
    by_cases hc : p c = true
    · have e : runL p (c :: r) = runL p r + 1 := by simp [runL, hc]
      have h' : runL p r < r.length := by rw [e] at h; simpa using h
      have := runL_lt h'
      simp only [e, List.getElem_cons_succ]; exact this
    · have e : runL p (c :: r) = 0 := by simp [runL, hc]
      simp only [e, List.getElem_cons_zero]; simpa using hc
theorem runL_append {p : UInt8 → Bool} {l r : List UInt8} (h : l.all p = true) : runL p (l ++ r) = l.length + runL p r := by
  induction l with
  | nil => simp
  | cons c k ih =>
    simp only [List.all_cons, Bool.and_eq_true] at h
    simp only [List.cons_append, runL, if_pos h.1, ih h.2, List.length_cons]; omega
theorem runL_append_lt {p : UInt8 → Bool} {l r : List UInt8} (h : l.all p = false) : runL p (l ++ r) = runL p l := by
  induction l with
  | nil => simp at h
  | cons c k ih =>
    by_cases hc : p c = true
    · simp only [List.all_cons, hc, Bool.true_and] at h
      simp only [List.cons_append, runL, if_pos hc, ih h]
    · simp only [List.cons_append, runL, if_neg hc]
/-- The bytes. -/
def dg (c : UInt8) : Bool := decide (48 ≤ c.toNat) && decide (c.toNat ≤ 57)
def bitB (c : UInt8) : Bool := decide (c.toNat = 48) || decide (c.toNat = 49)
def shown (c : UInt8) : Bool := decide (32 ≤ c.toNat) && decide (c.toNat ≤ 126)
def textB (c : UInt8) : Bool := shown c || decide (c.toNat = 10)
def barB (c : UInt8) : Bool := shown c && !decide (c.toNat = 124) && !decide (c.toNat = 92)
def moreB : List UInt8 := [43, 45, 42, 47, 61, 37, 63, 33, 46, 36, 95, 126, 38, 94, 60, 62, 64]
def nameB (c : UInt8) : Bool := (decide (97 ≤ c.toNat) && decide (c.toNat ≤ 122)) || (decide (65 ≤ c.toNat) && decide (c.toNat ≤ 90)) || dg c || moreB.contains c
theorem nameB_bar {c : UInt8} (h : nameB c = true) : barB c = true := by
  have k : ∀ n : Fin 256, nameB (UInt8.ofNat n.val) = true → barB (UInt8.ofNat n.val) = true := by decide +kernel
  have e : UInt8.ofNat c.toNat = c := by simp
  have := k ⟨c.toNat, c.toNat_lt⟩
  simp only [e] at this
  exact this h
theorem all_imp {p q : UInt8 → Bool} (h : ∀ c, p c = true → q c = true) {l : List UInt8} (hl : l.all p = true) : l.all q = true := by
  rw [List.all_eq_true] at hl ⊢
  exact fun x hx => h x (hl x hx)
/-- A text's inside, behind its first mark: what stands there, and how many bytes up to the mark at its end. -/
def scanT : List UInt8 → Option (List UInt8 × Nat)
  | [] => none
  | c :: r =>
    if c = 34 then
      match r with
      | d :: r' => if d = 34 then (scanT r').map (fun x => (34 :: x.1, x.2 + 2)) else some ([], 1)
      | [] => some ([], 1)
    else if textB c then (scanT r).map (fun x => (c :: x.1, x.2 + 1)) else none
def dbl : List UInt8 → List UInt8
  | [] => []
  | c :: r => if c = 34 then 34 :: 34 :: dbl r else c :: dbl r
theorem scanT_other {c : UInt8} {r : List UInt8} (h : c ≠ 34) : scanT (c :: r) = if textB c then (scanT r).map (fun x => (c :: x.1, x.2 + 1)) else none := by
  cases r <;> (rw [scanT.eq_def]; simp [h])
theorem scanT_two (r : List UInt8) : scanT (34 :: 34 :: r) = (scanT r).map (fun x => (34 :: x.1, x.2 + 2)) := by
  rw [scanT.eq_def]; simp
theorem scanT_one {d : UInt8} {r : List UInt8} (h : d ≠ 34) : scanT (34 :: d :: r) = some ([], 1) := by
  rw [scanT.eq_def]; simp [h]
theorem scanT_end : scanT [34] = some ([], 1) := by
  rw [scanT.eq_def]; simp
theorem scanT_dbl (t : List UInt8) : scanT (dbl t ++ [34]) = if t.all textB then some (t, (dbl t).length + 1) else none := by
  induction t with
  | nil => simp [dbl, scanT_end]
  | cons c r ih =>
    by_cases hc : c = 34
    · subst hc
      have h34 : textB 34 = true := by decide
      simp only [dbl, if_pos, List.cons_append, scanT_two, ih, List.all_cons, h34, Bool.true_and]
      split <;> simp
    · simp only [dbl, if_neg hc, List.cons_append, scanT_other hc, ih, List.all_cons]
      by_cases ht : textB c = true
      · simp only [ht, Bool.true_and, if_true]
        split <;> simp
      · simp [ht]
/-- Whether a node's text is of its kind. -/
def numOk (dec : Bool) (t : List UInt8) : Bool :=
  let k := runL dg t
  decide (0 < k) && !(decide (1 < k) && decide (t.head? = some 48)) &&
  (let m := match t.drop k with | c :: r => if c = 46 then runL dg r else 0 | [] => 0
   if dec then decide (0 < m) && decide (k + 1 + m = t.length) else decide (m = 0) && decide (k = t.length))
def wordOk (kind : Int) (t : List UInt8) : Bool :=
  if kind = 1 then t.isEmpty
  else if kind = 2 then t.all barB
  else if kind = 3 then numOk false t
  else if kind = 4 then numOk true t
  else if kind = 5 then !t.isEmpty && t.all bitB
  else if kind = 6 then t.all textB
  else if kind = 7 then !t.isEmpty && t.all nameB
  else false
/-- A node, but for its place. -/
structure Nd where
  kind : Int
  text : ByteArray
  kids : Int
def Nd.t (n : Nd) : List UInt8 := n.text.data.toList
def plainN (t : List UInt8) : Bool := !t.isEmpty && !(t.head?.any dg) && t.all nameB
def tokT (kind : Int) (t : List UInt8) : List UInt8 :=
  if kind = 1 then [40]
  else if kind = 2 then (if plainN t then t else 124 :: (t ++ [124]))
  else if kind = 3 ∨ kind = 4 then t
  else if kind = 5 then 35 :: 98 :: t
  else if kind = 6 then 34 :: (dbl t ++ [34])
  else if kind = 7 then 58 :: t
  else []
/-- The lists that are open, the innermost first: how many members are still to come. -/
def decL : List Int → List Int
  | [] => []
  | a :: r => (a - 1) :: r
def pushL (n : Nd) (l : List Int) : List Int := if n.kind = 1 then n.kids :: decL l else decL l
def popZ : List Int → List Int
  | [] => []
  | a :: r => if a = 0 then popZ r else a :: r
def stepL (n : Nd) (l : List Int) : List Int := popZ (pushL n l)
def closedL (n : Nd) (l : List Int) : Nat := (pushL n l).length - (stepL n l).length
theorem popZ_len (l : List Int) : (popZ l).length ≤ l.length := by
  induction l with
  | nil => exact Nat.le_refl _
  | cons a r ih => unfold popZ; split <;> simp <;> omega
theorem decL_len (l : List Int) : (decL l).length = l.length := by cases l <;> rfl
theorem pushL_len (n : Nd) (l : List Int) : (pushL n l).length = l.length + (if n.kind = 1 then 1 else 0) := by
  unfold pushL; split <;> simp [decL_len]
theorem popZ_head {l : List Int} {a : Int} {r : List Int} (h : popZ l = a :: r) : a ≠ 0 := by
  induction l with
  | nil => simp [popZ] at h
  | cons b k ih =>
    unfold popZ at h
    split at h
    · exact ih h
    · simp only [List.cons.injEq] at h; rw [← h.1]; assumption
theorem popZ_mem {l : List Int} {x : Int} (h : x ∈ popZ l) : x ∈ l := by
  induction l with
  | nil => exact h
  | cons b k ih =>
    unfold popZ at h
    split at h
    · exact List.mem_cons_of_mem _ (ih h)
    · exact h
def posL (l : List Int) : Prop := (∀ x ∈ l, 0 ≤ x ∧ x ≤ 9223372036854775807) ∧ ∀ a r, l = a :: r → 1 ≤ a
theorem popZ_pos {l : List Int} (h : ∀ x ∈ l, 0 ≤ x ∧ x ≤ 9223372036854775807) : posL (popZ l) := by
  refine ⟨fun x hx => h x (popZ_mem hx), fun a r e => ?_⟩
  have h0 := popZ_head e
  have h1 := h a (popZ_mem (by rw [e]; simp))
  omega
theorem pushL_nat {n : Nd} {l : List Int} (hl : posL l) (h0 : 0 ≤ n.kids) (h1 : n.kids ≤ 9223372036854775807) : ∀ x ∈ pushL n l, 0 ≤ x ∧ x ≤ 9223372036854775807 := by
  have h2 : ∀ x ∈ decL l, 0 ≤ x ∧ x ≤ 9223372036854775807 := by
    cases l with
    | nil => intro x hx; simp [decL] at hx
    | cons a r =>
      have ha := hl.1 a (by simp)
      have hb := hl.2 a r rfl
      intro x hx
      simp only [decL, List.mem_cons] at hx
      rcases hx with rfl | e
      · omega
      · exact hl.1 x (List.mem_cons_of_mem _ e)
  unfold pushL
  split
  · intro x hx
    rcases List.mem_cons.1 hx with rfl | e
    · exact ⟨h0, h1⟩
    · exact h2 x e
  · exact h2
/-- Behind a step the innermost list that is open has members still to come. -/
theorem stepL_pos {n : Nd} {l : List Int} (hl : posL l) (h0 : 0 ≤ n.kids) (h1 : n.kids ≤ 9223372036854775807) : posL (stepL n l) := popZ_pos (pushL_nat hl h0 h1)
/-- All that GoodTree asks but the size of what is written. -/
def nodeOk (n : Nd) : Bool := decide (0 ≤ n.kids) && (decide (n.kind = 1) || decide (n.kids = 0)) && wordOk n.kind n.t
def fitF : List Nd → Nat → List Int → Bool
  | [], _, l => l.isEmpty
  | n :: r, z, l => if 20000 < z + n.text.size ∨ nodeOk n = false ∨ (n.kind = 1 ∧ l.length = 200) then false else fitF r (z + n.text.size) (stepL n l)
def fits (ns : List Nd) : Bool := decide (ns.length ≤ 8000) && fitF ns 0 []
/-- What is written: the program's way. -/
def sepI (n : Nd) (l : List Int) : List UInt8 := if (stepL n l).isEmpty then [10] else if n.kind ≠ 1 ∨ 0 < closedL n l then [32] else []
def rowI : List Nd → List Int → List UInt8
  | [], _ => []
  | n :: r, l => tokT n.kind n.t ++ List.replicate (closedL n l) 41 ++ sepI n l ++ rowI r (stepL n l)
/-- The specification's way: 'b': whether what is written so far ends in a bracket that opens. -/
def rowS : List Nd → List Int → Bool → List UInt8
  | [], _, _ => []
  | n :: r, l, b => (if l.isEmpty || b then [] else [32]) ++ tokT n.kind n.t ++ List.replicate (closedL n l) 41 ++ (if (stepL n l).isEmpty then [10] else []) ++
      rowS r (stepL n l) (decide (n.kind = 1) && decide (closedL n l = 0))
theorem rowS_row (ns : List Nd) : ∀ (z : Nat) (l : List Int) (b : Bool), fitF ns z l = true → (if l.isEmpty || b then [] else [32]) ++ rowI ns l = rowS ns l b ++ (if ns.isEmpty then (if l.isEmpty || b then [] else [32]) else []) := by
  induction ns with
  | nil => intro z l b _; simp [rowI, rowS]
  | cons n r ih =>
    intro z l b h
    unfold fitF at h
    split at h
    · cases h
    · rename_i hc
      have k := ih (z + n.text.size) (stepL n l) (decide (n.kind = 1) && decide (closedL n l = 0)) h
      have e : rowI r (stepL n l) = (if r.isEmpty && (stepL n l).isEmpty then [] else rowI r (stepL n l)) := by
        split
        · rename_i h; simp only [Bool.and_eq_true, List.isEmpty_iff] at h; rw [h.1]; rfl
        · rfl
      simp only [rowI, rowS, List.isEmpty_cons, Bool.false_eq_true, if_false, List.append_nil, List.append_assoc]
      congr 2; congr 1
      unfold sepI
      by_cases hs : (stepL n l).isEmpty = true
      · simp only [hs, if_true, Bool.true_or, List.nil_append] at k ⊢
        rw [k]; simp
      · have hs' : (stepL n l).isEmpty = false := by simpa using hs
        have hr : r.isEmpty = false := by
          cases r with
          | nil => simp [fitF, hs'] at h
          | cons _ _ => rfl
        simp only [hs', hr, Bool.false_eq_true, if_false, Bool.false_or, List.nil_append, List.append_nil] at k ⊢
        rw [← k]
        by_cases h1 : n.kind = 1
        · by_cases h2 : closedL n l = 0
          · simp [h1, h2]
          · have : 0 < closedL n l := by omega
            simp [h1, h2, this]
        · simp [h1]
theorem rowS_eq {ns : List Nd} {z : Nat} (h : fitF ns z [] = true) : rowS ns [] true = rowI ns [] := by
  have := rowS_row ns z [] true h
  simpa using this.symm
end Go.Proofs.YtdphpfffofeklaaDoor.T
namespace Go.Proofs.YtdphpfffofeklaaDoor.T
open Go.ChangeShapes Go.WideShapes Go.ChangeAt Go.RowKit
theorem ret_bool {a b : Bool} (h : a = b) : Ending.returned (.bool a) = .returned (.bool b) := by rw [h]
theorem take_snoc (s : ByteArray) (k : Nat) (h : k < s.size) : s.data.toList.take (k + 1) = s.data.toList.take k ++ [s[k]] := by
  rw [List.take_succ_eq_append_getElem (by simpa using h)]; rfl
theorem all_snoc {p : UInt8 → Bool} {s : ByteArray} {k : Nat} (h : k < s.size) (hp : (s.data.toList.take k).all p = true) (h1 : p s[k] = true) : (s.data.toList.take (k + 1)).all p = true := by
  rw [take_snoc s k h, List.all_append, hp]; simp [h1]
theorem all_stop {p : UInt8 → Bool} {s : ByteArray} {k : Nat} (h : k < s.size) (h1 : p s[k] = false) : s.data.toList.all p = false := by
  rw [Bool.eq_false_iff]
  intro ha
  rw [List.all_eq_true] at ha
  have := ha s[k] (by show s.data[k] ∈ _; exact Array.getElem_mem_toList _)
  rw [h1] at this; cases this
theorem all_end {p : UInt8 → Bool} {s : ByteArray} {k : Nat} (h : ¬ k < s.size) (hp : (s.data.toList.take k).all p = true) : s.data.toList.all p = true := by
  rw [← hp, List.take_of_length_le (by rw [← Lib.size_eq]; omega)]
theorem dg_iff (c : UInt8) : dg c = true ↔ 48 ≤ c.toNat ∧ c.toNat ≤ 57 := by simp [dg]
set_option maxHeartbeats 400000 in
theorem l3Digit_ex (c : UInt8) (w : World) :
    Calls Tryd.prog 51 #[.int .u8 (c.toNat : Int)] w fun e w' => e = .returned (.bool (dg c)) ∧ w' = w := by
  have HF : Hid (dg c = true ↔ 48 ≤ c.toNat ∧ c.toNat ≤ 57) := dg_iff c
  go_enter Tryd.func51, Tryd.ntmps51
  go_wp2
  all_goals go_ret
  all_goals (refine ⟨ret_bool ?_, rfl⟩; rw [Bool.eq_iff_iff, HF.out]; simp <;> omega)
end Go.Proofs.YtdphpfffofeklaaDoor.T
namespace Go.Proofs.YtdphpfffofeklaaDoor.T
open Go.ChangeShapes Go.WideShapes Go.ChangeAt Go.RowKit
abbrev moreS : ByteArray := ⟨#[43, 45, 42, 47, 61, 37, 63, 33, 46, 36, 95, 126, 38, 94, 60, 62, 64]⟩
theorem nameB_iff (c : UInt8) : nameB c = true ↔ ((97 ≤ c.toNat ∧ c.toNat ≤ 122) ∨ (65 ≤ c.toNat ∧ c.toNat ≤ 90) ∨ (48 ≤ c.toNat ∧ c.toNat ≤ 57)) ∨ c ∈ moreB := by
  simp [nameB, dg, or_assoc]
theorem u8_eq {a c : UInt8} (e : ((a.toNat : Int) == (c.toNat : Int)) = true) : a = c := by
  rw [beq_iff_eq] at e
  exact UInt8.toNat_inj.1 (by omega)
theorem u8_ne {a c : UInt8} (e : ((a.toNat : Int) == (c.toNat : Int)) = false) : a ≠ c := by
  rw [beq_eq_false_iff_ne] at e
  intro h; rw [h] at e; exact e rfl
theorem more_toList : moreS.data.toList = moreB := rfl
theorem more_yes {k : Nat} {c : UInt8} (h : k < moreS.size) (e : ((moreS[k].toNat : Int) == (c.toNat : Int)) = true) : c ∈ moreB := by
  rw [← u8_eq e, ← more_toList]
  show moreS.data[k] ∈ _
  exact Array.getElem_mem_toList _
theorem more_no {k : Nat} {c : UInt8} (h : k < moreS.size) (e : ((moreS[k].toNat : Int) == (c.toNat : Int)) = false) (hp : c ∉ moreB.take k) : c ∉ moreB.take (k + 1) := by
  have := take_snoc moreS k h
  rw [more_toList] at this
  rw [this, List.mem_append, not_or]
  exact ⟨hp, fun hc => u8_ne e (List.mem_singleton.1 hc).symm⟩
set_option maxHeartbeats 1000000 in
theorem l3NameByte_ex (c : UInt8) (w : World) :
    Calls Tryd.prog 52 #[.int .u8 (c.toNat : Int)] w fun e w' => e = .returned (.bool (nameB c)) ∧ w' = w := by
  have HF : Hid (nameB c = true ↔ ((97 ≤ c.toNat ∧ c.toNat ≤ 122) ∨ (65 ≤ c.toNat ∧ c.toNat ≤ 90) ∨ (48 ≤ c.toNat ∧ c.toNat ≤ 57)) ∨ c ∈ moreB) := nameB_iff c
  go_enter Tryd.func52, Tryd.ntmps52
  go_wp2
  all_goals first
    | (go_ret; refine ⟨ret_bool ?_, rfl⟩; rw [Bool.eq_iff_iff, HF.out]; simp; omega)
    | skip
  all_goals
    have HN : Hid (¬((97 ≤ c.toNat ∧ c.toNat ≤ 122) ∨ (65 ≤ c.toNat ∧ c.toNat ≤ 90) ∨ (48 ≤ c.toNat ∧ c.toNat ≤ 57))) := by
      show ¬ _
      omega
    go_loop [4] (fun i => ∃ k : Nat, k ≤ 17 ∧ i = .int .i64 k ∧ c ∉ moreB.take k) (fun i => 17 - (intOf i).toNat)
    case atStart => exact ⟨0, Nat.zero_le _, rfl, by simp⟩
    case round =>
      obtain ⟨k, hk, rfl, hp⟩ := hrel
      have HP : Hid (c ∉ moreB.take k) := hp
      clear hp
      by_cases hlt : k < 17
      · have hx : k < moreS.size := hlt
        by_cases he : ((moreS[k].toNat : Int) == (c.toNat : Int)) = true
        · have HE := more_yes hx he
          go_wp2
          go_ret
          exact ⟨ret_bool (HF.out.2 (.inr HE)).symm, rfl⟩
        · have he' : ((moreS[k].toNat : Int) == (c.toNat : Int)) = false := by simpa using he
          have HE : Hid (c ∉ moreB.take (k + 1)) := more_no hx he' HP.out
          clear he
          go_wp2
          go_round
          case rel => exact ⟨k + 1, by omega, by go_num, HE.out⟩
          case measure => simp [intOf]; omega
      · have HE : Hid (c ∉ moreB) := by
          show c ∉ moreB
          have := HP.out
          rw [List.take_of_length_le (by show 17 ≤ k; omega)] at this
          exact this
        go_wp2
        go_ret
        exact ⟨ret_bool (by symm; rw [Bool.eq_false_iff]; intro h; exact (HF.out.1 h).elim HN.out HE.out), rfl⟩
end Go.Proofs.YtdphpfffofeklaaDoor.T
namespace Go.Proofs.YtdphpfffofeklaaDoor.T
open Go.ChangeShapes Go.WideShapes Go.ChangeAt Go.RowKit
theorem head_eq (d : ByteArray) (h : 0 < d.size) : d.data.toList.head? = some d[0] := by
  obtain ⟨⟨l⟩⟩ := d
  cases l with
  | nil => simp [ByteArray.size] at h
  | cons a l => rfl
theorem toList_ne (d : ByteArray) (h : 0 < d.size) : d.toList.isEmpty = false := by
  rw [ByteArray.toList_eq]
  have := Lib.size_eq d
  cases hl : d.data.toList with
  | nil => exfalso; rw [hl] at this; simp only [List.length_nil] at this; omega
  | cons _ _ => rfl
theorem data_nil {d : ByteArray} (h : d.size = 0) : d.data.toList = [] := List.eq_nil_of_length_eq_zero (by rw [← Lib.size_eq]; exact h)
theorem data_ne {d : ByteArray} (h : 0 < d.size) : d.data.toList.isEmpty = false := by rw [← ByteArray.toList_eq]; exact toList_ne d h
theorem plainN_nil {s : ByteArray} (h : s.size = 0) : plainN s.data.toList = false := by rw [data_nil h]; rfl
theorem plainN_dg {s : ByteArray} (h : 0 < s.size) (h1 : dg s[0] = true) : plainN s.data.toList = false := by
  unfold plainN; rw [head_eq s h]; simp [h1]
theorem plainN_rest {s : ByteArray} (h : 0 < s.size) (h1 : dg s[0] = false) : plainN s.data.toList = s.data.toList.all nameB := by
  unfold plainN; rw [head_eq s h, data_ne h]; simp [h1]
set_option maxRecDepth 100000 in
set_option maxHeartbeats 1000000 in
theorem l3Plain_any (s : ByteArray) (w : World) (hs : s.size ≤ maxLen) :
    Calls Tryd.prog 39 #[.string s] w fun e w' => e = .returned (.bool (plainN s.data.toList)) ∧ w' = w := by
  unfold maxLen at hs
  by_cases h0 : s.size = 0
  · have F : Hid (plainN s.data.toList = false) := plainN_nil h0
    have z : ((s.size : Int) == 0) = true := by rw [beq_iff_eq]; omega
    clear h0
    go_enter Tryd.func39, Tryd.ntmps39
    go_wp2_with fail
    go_ret
    exact ⟨ret_bool F.out.symm, rfl⟩
  have hp : 0 < s.size := by omega
  have z : ((s.size : Int) == 0) = false := by rw [beq_eq_false_iff_ne]; omega
  clear h0
  by_cases h1 : dg s[0] = true
  · have F : Hid (plainN s.data.toList = false) := plainN_dg hp h1
    go_enter Tryd.func39, Tryd.ntmps39
    go_wp2_with (go_at_call 51; refine (l3Digit_ex _ _).mono ?_; rintro e w' ⟨rfl, rfl⟩)
    go_ret
    exact ⟨ret_bool F.out.symm, rfl⟩
  have h1' : dg s[0] = false := by simpa using h1
  have F : Hid (plainN s.data.toList = s.data.toList.all nameB) := plainN_rest hp h1'
  clear h1
  go_enter Tryd.func39, Tryd.ntmps39
  go_wp2_with (go_at_call 51; refine (l3Digit_ex _ _).mono ?_; rintro e w' ⟨rfl, rfl⟩)
  go_loop [3] (fun i => ∃ k : Nat, k ≤ s.size ∧ i = .int .i64 k ∧ (s.data.toList.take k).all nameB = true) (fun i => s.size - (intOf i).toNat)
  case atStart => exact ⟨0, Nat.zero_le _, rfl, rfl⟩
  case round =>
    obtain ⟨k, hk, rfl, hp⟩ := hrel
    have HP : Hid ((s.data.toList.take k).all nameB = true) := hp
    clear hp
    by_cases hlt : k < s.size
    · by_cases hc : nameB s[k] = true
      · go_wp2_with (go_at_call 52; refine (l3NameByte_ex _ _).mono ?_; rintro e w' ⟨rfl, rfl⟩)
        go_round
        case rel => exact ⟨k + 1, by omega, by go_num, all_snoc hlt HP.out hc⟩
        case measure => simp [intOf]; omega
      · have hc' : nameB s[k] = false := by simpa using hc
        clear hc
        go_wp2_with (go_at_call 52; refine (l3NameByte_ex _ _).mono ?_; rintro e w' ⟨rfl, rfl⟩)
        go_ret
        exact ⟨ret_bool (by rw [F.out, all_stop hlt hc']), rfl⟩
    · go_wp2_with fail
      go_ret
      exact ⟨ret_bool (by rw [F.out, all_end hlt HP.out]), rfl⟩
def strOf (l : List UInt8) : ByteArray := ⟨l.toArray⟩
theorem strOf_toList (l : List UInt8) : (strOf l).data.toList = l := by simp [strOf]
theorem strOf_data (s : ByteArray) : strOf s.data.toList = s := by simp [strOf]
theorem strOf_bars (s : ByteArray) : (⟨#[124]⟩ ++ s ++ ⟨#[124]⟩ : ByteArray) = strOf (124 :: (s.data.toList ++ [124])) := by
  apply ByteArray.ext
  apply Array.ext'
  simp [strOf]
theorem tokT_bars {s : ByteArray} (h : plainN s.data.toList = false) : Ending.returned (.string (⟨#[124]⟩ ++ s ++ ⟨#[124]⟩)) = .returned (.string (strOf (tokT 2 s.data.toList))) := by
  rw [strOf_bars]; simp [tokT, h]
theorem tokT_plain {s : ByteArray} (h : plainN s.data.toList = true) : Ending.returned (.string s) = .returned (.string (strOf (tokT 2 s.data.toList))) := by
  have : tokT 2 s.data.toList = s.data.toList := by simp [tokT, h]
  rw [this, strOf_data]
end Go.Proofs.YtdphpfffofeklaaDoor.T
namespace Go.Proofs.YtdphpfffofeklaaDoor.T
open Go.ChangeShapes Go.WideShapes Go.ChangeAt Go.RowKit
theorem hidG {p : Prop} (h : p) : Hid p := h
theorem below_alloc (w : World) (o : Obj) : Below w.heap.size w (w.alloc o) := (Below.refl _ _).alloc (Nat.le_refl _) o
theorem below_al {B : Nat} {a w : World} (h : Below B a w) (hB : B ≤ w.heap.size) (o : Obj) : Below B a (w.alloc o) := h.alloc hB o
def Bx (W : World) (g : Nat) (l : List Value) : Prop := ∃ ty, W.heap[g]? = some (.cells l.toArray ty (0, 0))
theorem Bx.lt {W : World} {g : Nat} {l : List Value} (h : Bx W g l) : g < W.heap.size := by
  obtain ⟨t, h⟩ := h
  exact (Array.getElem?_eq_some_iff.1 h).1
theorem Bx.cell {W : World} {g : Nat} {l : List Value} (h : Bx W g l) (i : Nat) : W.cell? ⟨g, i, none⟩ = l[i]? := by
  obtain ⟨t, h⟩ := h
  simp [World.cell?, h]
theorem Bx.set {W : World} {g : Nat} {l : List Value} (h : Bx W g l) (i : Nat) (v : Value) : Bx (W.setCell ⟨g, i, none⟩ v) g (l.set i v) := by
  obtain ⟨t, h⟩ := h
  refine ⟨t, ?_⟩
  obtain ⟨hlt, hk⟩ := Array.getElem?_eq_some_iff.1 h
  show (W.heap.modify g _)[g]? = _
  rw [Array.getElem?_eq_getElem (by rw [Array.size_modify]; exact hlt), Array.getElem_modify_self, hk]
  simp
theorem Bx.below {W W' : World} {g N : Nat} {l : List Value} (h : Bx W g l) (hN : g < N) (hb : Below N W W') : Bx W' g l := by
  obtain ⟨t, h⟩ := h
  exact ⟨t, (hb.block g hN).trans h⟩
theorem Bx.alloc {W : World} {g : Nat} {l : List Value} (h : Bx W g l) (o : Obj) : Bx (W.alloc o) g l := h.below h.lt (below_alloc W o)
theorem bx_new (W : World) (l : List Value) (ty : TypeId) : Bx (W.alloc (.cells l.toArray ty)) W.heap.size l := ⟨ty, Array.getElem?_push_size⟩
theorem Bx.c4 {W : World} {g : Nat} {v0 v1 v2 v3 : Value} {r : List Value} (h : Bx W g (v0 :: v1 :: v2 :: v3 :: r)) : W.cell? ⟨g, 0, none⟩ = some v0 ∧ W.cell? ⟨g, 1, none⟩ = some v1 ∧ W.cell? ⟨g, 2, none⟩ = some v2 ∧ W.cell? ⟨g, 3, none⟩ = some v3 := ⟨h.cell 0, h.cell 1, h.cell 2, h.cell 3⟩
end Go.Proofs.YtdphpfffofeklaaDoor.T
namespace Go.Proofs.YtdphpfffofeklaaDoor.T
open Go.ChangeShapes Go.WideShapes Go.ChangeAt Go.RowKit
theorem strOf_bits (s : ByteArray) : (⟨#[35, 98]⟩ ++ s : ByteArray) = strOf (35 :: 98 :: s.data.toList) := by
  apply ByteArray.ext; apply Array.ext'; simp [strOf]
theorem strOf_key (s : ByteArray) : (⟨#[58]⟩ ++ s : ByteArray) = strOf (58 :: s.data.toList) := by
  apply ByteArray.ext; apply Array.ext'; simp [strOf]
set_option maxRecDepth 100000 in
set_option maxHeartbeats 2000000 in
theorem l3Written_2 (s : ByteArray) (k0 q0 : Int) (w : World) (hs : s.size ≤ 20000) :
    Calls Tryd.prog 24 #[.agg #[.int .i64 2, .string s, .int .i64 k0, .int .i64 q0]] w fun e w' => e = .returned (.string (strOf (tokT 2 s.data.toList))) ∧ Below w.heap.size w w' := by
  have hm : s.size ≤ maxLen := by unfold maxLen; omega
  obtain ⟨c0, c1, _, _⟩ := (bx_new w [.int .i64 2, .string s, .int .i64 k0, .int .i64 q0] 67).c4
  by_cases h : plainN s.data.toList = true
  · go_enter Tryd.func24, Tryd.ntmps24
    go_wp2_with (go_at_call 39; refine (l3Plain_any _ _ hm).mono ?_; rintro e w' ⟨rfl, rfl⟩)
    go_ret
    exact ⟨tokT_plain h, below_alloc _ _⟩
  · have h' : plainN s.data.toList = false := by simpa using h
    clear h
    go_enter Tryd.func24, Tryd.ntmps24
    go_wp2_with (go_at_call 39; refine (l3Plain_any _ _ hm).mono ?_; rintro e w' ⟨rfl, rfl⟩)
    go_ret
    exact ⟨tokT_bars h', below_alloc _ _⟩
set_option maxRecDepth 100000 in
set_option maxHeartbeats 2000000 in
theorem l3Written_5 (s : ByteArray) (k0 q0 : Int) (w : World) (hs : s.size ≤ 20000) :
    Calls Tryd.prog 24 #[.agg #[.int .i64 5, .string s, .int .i64 k0, .int .i64 q0]] w fun e w' => e = .returned (.string (strOf (tokT 5 s.data.toList))) ∧ Below w.heap.size w w' := by
  go_enter Tryd.func24, Tryd.ntmps24
  go_wp2_with fail
  go_ret
  exact ⟨by rw [strOf_bits]; rfl, below_alloc _ _⟩
set_option maxRecDepth 100000 in
set_option maxHeartbeats 2000000 in
theorem l3Written_7 (s : ByteArray) (k0 q0 : Int) (w : World) (hs : s.size ≤ 20000) :
    Calls Tryd.prog 24 #[.agg #[.int .i64 7, .string s, .int .i64 k0, .int .i64 q0]] w fun e w' => e = .returned (.string (strOf (tokT 7 s.data.toList))) ∧ Below w.heap.size w w' := by
  go_enter Tryd.func24, Tryd.ntmps24
  go_wp2_with fail
  go_ret
  exact ⟨by rw [strOf_key]; rfl, below_alloc _ _⟩
set_option maxRecDepth 100000 in
set_option maxHeartbeats 2000000 in
theorem l3Written_n (k : Int) (s : ByteArray) (k0 q0 : Int) (w : World) (h : k = 3 ∨ k = 4) :
    Calls Tryd.prog 24 #[.agg #[.int .i64 k, .string s, .int .i64 k0, .int .i64 q0]] w fun e w' => e = .returned (.string (strOf (tokT k s.data.toList))) ∧ Below w.heap.size w w' := by
  have F : Hid (Ending.returned (.string s) = .returned (.string (strOf (tokT k s.data.toList)))) := by
    have : tokT k s.data.toList = s.data.toList := by unfold tokT; rw [if_neg (by omega), if_neg (by omega), if_pos h]
    unfold Hid; rw [this, strOf_data]
  have e2 : (k == 2) = false := by rw [beq_eq_false_iff_ne]; omega
  have e5 : (k == 5) = false := by rw [beq_eq_false_iff_ne]; omega
  have e6 : (k == 6) = false := by rw [beq_eq_false_iff_ne]; omega
  have e7 : (k == 7) = false := by rw [beq_eq_false_iff_ne]; omega
  clear h
  go_enter Tryd.func24, Tryd.ntmps24
  go_wp2_with fail
  go_ret
  exact ⟨F.out, below_alloc _ _⟩
end Go.Proofs.YtdphpfffofeklaaDoor.T
namespace Go.Proofs.YtdphpfffofeklaaDoor.T
open Go.ChangeShapes Go.WideShapes Go.ChangeAt Go.RowKit
theorem Tryd.info_u8 : (Tryd.prog.info? 5).map (fun i => (i.zero, i.size, i.bytes)) = some (some (.int .u8 0), 1, 1) := by kernel_rfl
theorem owns_one (w : World) (base e : Nat) (x : Value) (hb : base ≤ w.heap.size) : (w.alloc (.cells #[x] e)).ownsRow base e 1 (.slice (some ⟨w.heap.size, 0, none⟩) 1 1) 1 [x] := by
  refine ⟨rfl, .inr ⟨w.heap.size, 1, #[x], rfl, hb, ?_, Nat.le_refl _, (by unfold maxLen; omega), rfl, rfl⟩⟩
  exact heap_alloc_new w _
theorem dbl_snoc (l : List UInt8) (c : UInt8) : dbl (l ++ [c]) = dbl l ++ (if c = 34 then [34, 34] else [c]) := by
  induction l with
  | nil => simp [dbl]
  | cons a r ih =>
    simp only [List.cons_append, dbl, ih]
    split <;> simp
theorem dbl_len (l : List UInt8) : (dbl l).length ≤ 2 * l.length := by
  induction l with
  | nil => exact Nat.le_refl _
  | cons a r ih => unfold dbl; split <;> simp <;> omega
theorem conv_cells {base : Nat} {W : World} {v : Value} {l : List UInt8} (h : W.ownsRow base 5 1 v l.length (Lib.byteCells l)) (hl : 0 < l.length) :
    (convert 45 9 v).run Tryd.prog W = .ok (.string (strOf l)) W := by
  have h' := h
  rcases h.2 with ⟨_, h0⟩ | ⟨g, cap, cur, rfl, _⟩
  · omega
  · refine run_convert_bytes_back (P := Tryd.prog) W 45 9 5 ⟨g, 0, none⟩ cap l Tryd.underlying45 Tryd.underlying5 Tryd.underlying9 (fun j hj => ?_)
    exact h'.cells (g := g) rfl j (.int .u8 (l[j].toNat : Int)) (by simp [Lib.byteCells, List.getElem?_eq_getElem hj])
set_option maxRecDepth 100000 in
set_option maxHeartbeats 4000000 in
theorem l3Written_6 (s : ByteArray) (k0 q0 : Int) (w : World) (hs : s.size ≤ 20000) :
    Calls Tryd.prog 24 #[.agg #[.int .i64 6, .string s, .int .i64 k0, .int .i64 q0]] w fun e w' => e = .returned (.string (strOf (tokT 6 s.data.toList))) ∧ Below w.heap.size w w' := by
  obtain ⟨i0, hinf, hz0, hz1, hz2⟩ := info_parts Tryd.info_u8
  go_enter Tryd.func24, Tryd.ntmps24
  go_wp2_with fail
  have hbx := (bx_new w [.int .i64 6, .string s, .int .i64 k0, .int .i64 q0] 67).alloc (.cells #[.int .u8 34] 5)
  have hown0 := owns_one (w.alloc (.cells #[.int .i64 6, .string s, .int .i64 k0, .int .i64 q0] 67)) (w.heap.size + 1) 5 (.int .u8 34) (by simp)
  obtain ⟨W0, hW0⟩ : ∃ W0, (w.alloc (.cells #[.int .i64 6, .string s, .int .i64 k0, .int .i64 q0] 67)).alloc (.cells #[.int .u8 34] 5) = W0 := ⟨_, rfl⟩
  have HBW : Hid (Below w.heap.size w W0) := by unfold Hid; rw [← hW0]; exact below_al (below_alloc _ _) (by simp) _
  have HS0 : Hid (W0.heap.size = w.heap.size + 2) := by unfold Hid; rw [← hW0]; simp
  rw [World.size_alloc, hW0] at hown0
  rw [hW0] at hbx ⊢
  have HBX : Hid (∀ W, Below (w.heap.size + 1) W0 W → W.cell? ⟨w.heap.size, 1, none⟩ = some (.string s)) := fun W hb => (hbx.below (by omega) hb).cell 1
  clear hW0 hbx
  go_loopw [3, 4] (fun v i wr => ∃ j : Nat, j ≤ s.size ∧ i = .int .i64 j ∧ wr.ownsRow (w.heap.size + 1) 5 1 v ((dbl (s.data.toList.take j)).length + 1) (Lib.byteCells (34 :: dbl (s.data.toList.take j))) ∧ Below (w.heap.size + 1) W0 wr) (fun _ i _ => s.size - (intOf i).toNat)
  case atStart => exact ⟨0, Nat.zero_le _, rfl, hown0, Below.refl _ _⟩
  case round =>
    clear hown0
    obtain ⟨j, hj, rfl, hown, hB⟩ := hrel
    have k1 := HBX.out _ hB
    have HB := hidG hB
    have hlen := dbl_len (s.data.toList.take j)
    rw [List.length_take] at hlen
    by_cases hlt : j < s.size
    · have HTK : Hid (s.data.toList.take (j + 1) = s.data.toList.take j ++ [s[j]]) := take_snoc s j hlt
      obtain ⟨P, hP⟩ : ∃ P, dbl (s.data.toList.take j) = P := ⟨_, rfl⟩
      have HP := hidG hP
      rw [hP] at hown hlen
      clear hP
      by_cases hq : s[j] = 34
      · have z : ((s[j].toNat : Int) == 34) = true := by rw [hq]; rfl
        have HQ := hidG hq
        clear hq hB
        go_wp2_with (at_builtin; refine wpList_append_own_at _ rfl _ _ 45 rfl (w.heap.size + 1) 5 i0 (.int .u8 0) 1 1 Tryd.underlying45 hinf hz0 hz1 hz2 rfl (by decide) u3 (P.length + 1) _ rfl (hown.alloc _) ⟨wr.heap.size, 0, none⟩ 1 1 [.int .u8 34] rfl rfl ?c1 ?c2 ?c3 ?c4 ?c5 ?_)
        case c1 =>
          intro i u hi
          match i, hi with
          | 0, hi => simp at hi; subst hi; simp [Addr.add]
        case c2 => intro u hu; simp at hu; subst hu; rfl
        case c3 => unfold maxLen; omega
        case c4 => omega
        case c5 => have := HB.out.size; have := HS0.out; simp; omega
        intro v1 w1 hown1 hgr1 _ _
        have hB1 : Below (w.heap.size + 1) W0 w1 := ((HB.out.alloc (by have := HB.out.size; have := HS0.out; omega) _).grown hgr1 (by have := HB.out.size; have := HS0.out; simp; omega) (fun k e => (hown.lt k e).1))
        have HB1 := hidG hB1
        have k2 := HBX.out _ hB1
        clear hown hgr1 hB1 k1
        go_wp2_with (at_builtin; refine wpList_append_own_at _ rfl _ _ 45 rfl (w.heap.size + 1) 5 i0 (.int .u8 0) 1 1 Tryd.underlying45 hinf hz0 hz1 hz2 rfl (by decide) v1 (P.length + 1 + 1) _ rfl (hown1.alloc _) ⟨w1.heap.size, 0, none⟩ 1 1 [.int .u8 (s[j].toNat : Int)] rfl rfl ?c1 ?c2 ?c3 ?c4 ?c5 ?_)
        case c1 =>
          intro i u hi
          match i, hi with
          | 0, hi => simp at hi; subst hi; simp [Addr.add]
        case c2 => intro u hu; simp at hu; subst hu; rfl
        case c3 => unfold maxLen; omega
        case c4 => omega
        case c5 => have := HB1.out.size; have := HS0.out; simp; omega
        intro v2 w2 hown2 hgr2 _ _
        have hB2 : Below (w.heap.size + 1) W0 w2 := ((HB1.out.alloc (by have := HB1.out.size; have := HS0.out; omega) _).grown hgr2 (by have := HB1.out.size; have := HS0.out; simp; omega) (fun k e => (hown1.lt k e).1))
        have HO : Hid (w2.ownsRow (w.heap.size + 1) 5 1 v2 ((dbl (s.data.toList.take (j + 1))).length + 1) (Lib.byteCells (34 :: dbl (s.data.toList.take (j + 1))))) := by
          unfold Hid
          rw [HTK.out, dbl_snoc, HP.out, if_pos HQ.out]
          have e : Lib.byteCells (34 :: (P ++ [34, 34])) = Lib.byteCells (34 :: P) ++ [Value.int .u8 34, Value.int .u8 (s[j].toNat : Int)] := by rw [HQ.out]; simp [Lib.byteCells]
          rw [e]
          have e2 : (P ++ [34, 34]).length + 1 = P.length + 1 + 1 + 1 := by simp
          rw [e2]; exact hown2
        have HB2 := hidG hB2
        clear hown1 hown2 hgr2 hB2 k2
        go_wp2
        go_roundw
        case rel => exact ⟨j + 1, by omega, by go_num, HO.out, HB2.out⟩
        case measure => simp [intOf]; omega
      · have z : ((s[j].toNat : Int) == 34) = false := by
          rw [beq_eq_false_iff_ne]
          intro e
          exact hq (UInt8.toNat_inj.1 (by show s[j].toNat = 34; omega))
        have HQ : Hid (¬ s[j] = 34) := hq
        clear hq hB
        go_wp2_with (at_builtin; refine wpList_append_own_at _ rfl _ _ 45 rfl (w.heap.size + 1) 5 i0 (.int .u8 0) 1 1 Tryd.underlying45 hinf hz0 hz1 hz2 rfl (by decide) u3 (P.length + 1) _ rfl (hown.alloc _) ⟨wr.heap.size, 0, none⟩ 1 1 [.int .u8 (s[j].toNat : Int)] rfl rfl ?c1 ?c2 ?c3 ?c4 ?c5 ?_)
        case c1 =>
          intro i u hi
          match i, hi with
          | 0, hi => simp at hi; subst hi; simp [Addr.add]
        case c2 => intro u hu; simp at hu; subst hu; rfl
        case c3 => unfold maxLen; omega
        case c4 => omega
        case c5 => have := HB.out.size; have := HS0.out; simp; omega
        intro v2 w2 hown2 hgr2 _ _
        have hB2 : Below (w.heap.size + 1) W0 w2 := ((HB.out.alloc (by have := HB.out.size; have := HS0.out; omega) _).grown hgr2 (by have := HB.out.size; have := HS0.out; simp; omega) (fun k e => (hown.lt k e).1))
        have HO : Hid (w2.ownsRow (w.heap.size + 1) 5 1 v2 ((dbl (s.data.toList.take (j + 1))).length + 1) (Lib.byteCells (34 :: dbl (s.data.toList.take (j + 1))))) := by
          unfold Hid
          rw [HTK.out, dbl_snoc, HP.out, if_neg HQ.out]
          have e : Lib.byteCells (34 :: (P ++ [s[j]])) = Lib.byteCells (34 :: P) ++ [Value.int .u8 (s[j].toNat : Int)] := by simp [Lib.byteCells]
          rw [e]
          have e2 : (P ++ [s[j]]).length + 1 = P.length + 1 + 1 := by simp
          rw [e2]; exact hown2
        have HB2 := hidG hB2
        clear hown hown2 hgr2 hB2 k1
        go_wp2
        go_roundw
        case rel => exact ⟨j + 1, by omega, by go_num, HO.out, HB2.out⟩
        case measure => simp [intOf]; omega
    · have HT : Hid (s.data.toList.take j = s.data.toList) := by unfold Hid; rw [List.take_of_length_le (by rw [← Lib.size_eq]; omega)]
      rw [HT.out] at hown hlen
      have HQ : Hid (34 :: (dbl s.data.toList ++ [34]) = tokT 6 s.data.toList) := rfl
      obtain ⟨P, hP⟩ : ∃ P, dbl s.data.toList = P := ⟨_, rfl⟩
      rw [hP] at hown hlen
      have HP := hidG hP
      clear hP hB
      go_wp2_with (at_builtin; refine wpList_append_own_at _ rfl _ _ 45 rfl (w.heap.size + 1) 5 i0 (.int .u8 0) 1 1 Tryd.underlying45 hinf hz0 hz1 hz2 rfl (by decide) u3 (P.length + 1) _ rfl (hown.alloc _) ⟨wr.heap.size, 0, none⟩ 1 1 [.int .u8 34] rfl rfl ?c1 ?c2 ?c3 ?c4 ?c5 ?_)
      case c1 =>
        intro i u hi
        match i, hi with
        | 0, hi => simp at hi; subst hi; simp [Addr.add]
      case c2 => intro u hu; simp at hu; subst hu; rfl
      case c3 => unfold maxLen; omega
      case c4 => omega
      case c5 => have := HB.out.size; have := HS0.out; simp; omega
      intro v2 w2 hown2 hgr2 _ _
      have hB2 : Below (w.heap.size + 1) W0 w2 := ((HB.out.alloc (by have := HB.out.size; have := HS0.out; omega) _).grown hgr2 (by have := HB.out.size; have := HS0.out; simp; omega) (fun k e => (hown.lt k e).1))
      have hO : w2.ownsRow (w.heap.size + 1) 5 1 v2 ((34 :: (P ++ [34])).length) (Lib.byteCells (34 :: (P ++ [34]))) := by
        have e : Lib.byteCells (34 :: (P ++ [34])) = Lib.byteCells (34 :: P) ++ [Value.int .u8 34] := by simp [Lib.byteCells]
        rw [e]
        have e2 : (34 :: (P ++ [34])).length = P.length + 1 + 1 := by simp
        rw [e2]; exact hown2
      have hcv := conv_cells hO (by simp)
      have HEND : Hid (Below w.heap.size w w2) := HBW.out.trans (hB2.mono (by omega))
      clear hown hown2 hgr2 hB2 hO k1
      go_wp2
      go_ret
      exact ⟨by rw [← HQ.out, HP.out] <;> rfl, HEND.out⟩
end Go.Proofs.YtdphpfffofeklaaDoor.T
namespace Go.Proofs.YtdphpfffofeklaaDoor.T
open Go.ChangeShapes Go.WideShapes Go.ChangeAt Go.RowKit
theorem Tryd.info_int : (Tryd.prog.info? 3).map (fun i => (i.zero, i.size, i.bytes)) = some (some (.int .i64 0), 1, 8) := by kernel_rfl
theorem own_below {w w' : World} {base : Nat} {e : TypeId} {v : Value} {n : Nat} {xs : List Value} (h : w.ownsRow base e 1 v n xs) (hb : Below w.heap.size w w') : w'.ownsRow base e 1 v n xs :=
  h.kept (row := none) ⟨hb.os, hb.tape, hb.output, hb.size, fun k hk _ => hb.block k hk⟩ (by cases v.ownBlock <;> simp)
def NodesAt (w : World) (b : Nat) (ns : List (Nd × Int)) : Prop :=
  ∀ i (h : i < ns.length), (w.cell? ⟨b, i * 4, none⟩ = some (.int .i64 ns[i].1.kind) ∧ w.cell? ⟨b, i * 4 + 1, none⟩ = some (.string ns[i].1.text) ∧ w.cell? ⟨b, i * 4 + 2, none⟩ = some (.int .i64 ns[i].1.kids) ∧ w.cell? ⟨b, i * 4 + 3, none⟩ = some (.int .i64 ns[i].2)) ∧ ns[i].1.text.size ≤ 1048576 ∧ ns[i].1.kids ≤ 9223372036854775807
theorem fitF_cons {n : Nd} {r : List Nd} {z : Nat} {l : List Int} : fitF (n :: r) z l = if 20000 < z + n.text.size ∨ nodeOk n = false ∨ (n.kind = 1 ∧ l.length = 200) then false else fitF r (z + n.text.size) (stepL n l) := rfl
theorem drop_nds {ns : List (Nd × Int)} {j : Nat} (h : j < ns.length) : (ns.map Prod.fst).drop j = ns[j].1 :: (ns.map Prod.fst).drop (j + 1) := by
  rw [List.drop_eq_getElem_cons (by simpa using h)]; simp
def ints (L : List Int) : List Value := L.reverse.map (.int .i64)
theorem ints_len (L : List Int) : (ints L).length = L.length := by simp [ints]
theorem ints_cons (a : Int) (L : List Int) : ints (a :: L) = ints L ++ [.int .i64 a] := by simp [ints]
theorem ints_set (a b : Int) (L : List Int) : (ints (a :: L)).set L.length (.int .i64 b) = ints (b :: L) := by
  rw [ints_cons, ints_cons, List.set_append_right _ _ (by rw [ints_len]; exact Nat.le_refl _), ints_len]; simp
theorem ints_at (a : Int) (L : List Int) : (ints (a :: L))[L.length]? = some (.int .i64 a) := by
  rw [ints_cons, List.getElem?_append_right (by rw [ints_len]; exact Nat.le_refl _), ints_len]; simp
def lenV : Value → Nat | .slice _ n _ => n | _ => 0
theorem own_shape {w : World} {base : Nat} {e : TypeId} {size : Nat} {v : Value} {n : Nat} {xs : List Value} (h : w.ownsRow base e size v n xs) : ∃ a c, v = .slice a n c := by
  rcases h.2 with ⟨rfl, rfl⟩ | ⟨g, cap, _, rfl, _⟩
  · exact ⟨_, _, rfl⟩
  · exact ⟨_, _, rfl⟩
theorem own_cap {w : World} {base : Nat} {e : TypeId} {size : Nat} {g n cap : Nat} {xs : List Value} (h : w.ownsRow base e size (.slice (some ⟨g, 0, none⟩) n cap) n xs) : n ≤ cap ∧ cap ≤ maxLen := by
  rcases h.2 with ⟨h0, _⟩ | ⟨g', cap', cur, hv, _, _, hn, hc, _, _⟩
  · cases h0
  · cases hv; exact ⟨hn, hc⟩
theorem nodeOk_split {n : Nd} (h : nodeOk n = true) : 0 ≤ n.kids ∧ (n.kind = 1 ∨ n.kids = 0) ∧ wordOk n.kind n.t = true := by
  simp only [nodeOk, Bool.and_eq_true, Bool.or_eq_true, decide_eq_true_eq] at h
  exact ⟨h.1.1, h.1.2, h.2⟩
end Go.Proofs.YtdphpfffofeklaaDoor.T
namespace Go.Proofs.YtdphpfffofeklaaDoor.T
open Go.ChangeShapes Go.WideShapes Go.ChangeAt Go.RowKit
theorem plainN_split {t : List UInt8} (h : plainN t = true) : t ≠ [] ∧ (∀ c, t.head? = some c → dg c = false) ∧ t.all nameB = true := by
  simp only [plainN, Bool.and_eq_true, Bool.not_eq_true', List.isEmpty_eq_false_iff] at h
  refine ⟨h.1.1, fun c hc => ?_, h.2⟩
  have := h.1.2
  rw [hc] at this
  simpa using this
end Go.Proofs.YtdphpfffofeklaaDoor.T
namespace Go.Proofs.YtdphpfffofeklaaDoor.T
open Go.ChangeShapes Go.WideShapes Go.ChangeAt Go.RowKit
theorem tokT_len (k : Int) (t : List UInt8) : (tokT k t).length ≤ 2 * t.length + 2 := by
  have := dbl_len t
  unfold tokT
  repeat' split
  all_goals simp
  all_goals omega
end Go.Proofs.YtdphpfffofeklaaDoor.T
namespace Go.Proofs.YtdphpfffofeklaaDoor.T
open Go.ChangeShapes Go.WideShapes Go.ChangeAt Go.RowKit
theorem own_other {W W' : World} {base : Nat} {e : TypeId} {v : Value} {n : Nat} {xs : List Value} (h : W.ownsRow base e 1 v n xs) (hk : ∀ g, v.ownBlock = some g → W'.heap[g]? = W.heap[g]?) : W'.ownsRow base e 1 v n xs := by
  refine ⟨h.1, ?_⟩
  rcases h.2 with h0 | ⟨g, cap, cur, rfl, h1, h2, h3⟩
  · exact .inl h0
  · exact .inr ⟨g, cap, cur, rfl, h1, (hk g rfl).trans h2, h3⟩
theorem own_set {W : World} {base b : Nat} {e : TypeId} {v : Value} {n : Nat} {xs : List Value} (h : W.ownsRow base e 1 v n xs) (hb : v.ownBlock ≠ some b) (i : Nat) (u : Value) : (W.setCell ⟨b, i, none⟩ u).ownsRow base e 1 v n xs :=
  own_other h fun g hg => Below.heap_setCell W _ u g (fun e => hb (by rw [hg]; exact congrArg some e))
theorem own_kind {W : World} {base : Nat} {v : Value} {n : Nat} {xs : List Value} {e : TypeId} (h : W.ownsRow base e 1 v n xs) : ∀ g, v.ownBlock = some g → ∃ c fz, W.heap[g]? = some (.cells c e fz) := by
  intro g hg
  rcases h.2 with ⟨rfl, _⟩ | ⟨g', cap, cur, rfl, _, h3, _⟩
  · cases hg
  · cases hg; exact ⟨cur, _, h3⟩
end Go.Proofs.YtdphpfffofeklaaDoor.T
namespace Go.Proofs.YtdphpfffofeklaaDoor.T
open Go.ChangeShapes Go.WideShapes Go.ChangeAt Go.RowKit
end Go.Proofs.YtdphpfffofeklaaDoor.T
namespace Go.Proofs.YtdphpfffofeklaaDoor.T
open Go.ChangeShapes Go.WideShapes Go.ChangeAt Go.RowKit
theorem own_apart {W W' : World} {base : Nat} {e1 e2 : TypeId} {v1 v2 : Value} {n1 n2 : Nat} {xs1 xs2 : List Value} (h1 : W.ownsRow base e1 1 v1 n1 xs1) (h2 : W.ownsRow base e2 1 v2 n2 xs2) (hne : e1 ≠ e2) (hg : W.grownBy W' v1.ownBlock) : W'.ownsRow base e2 1 v2 n2 xs2 := by
  refine own_other h2 fun g hg2 => hg.block g (h2.lt g hg2).2 ?_
  intro e
  obtain ⟨c1, f1, k1⟩ := own_kind h1 g e.symm
  obtain ⟨c2, f2, k2⟩ := own_kind h2 g hg2
  rw [k1] at k2
  cases k2
  exact hne rfl
theorem wpList_appB {ops : Array Oper} {rest : List Oper} {o : Oper} {a : Act} {Q : Exit → Act → World → Prop} {W : World} {y : Int} {base n : Nat} {v : Value} {xs : List Value} (hgd : o.guard = none) (s x : Operand)
    (ho : o.op = .call { callee := .builtin .append, args := #[s, x], argTypes := #[45, 45] }) (hs : a.eval s = v) (hown : W.ownsRow base 5 1 v n xs)
    (H : Nat) (hx : a.eval x = .slice (some ⟨H, 0, none⟩) 1 1) (hH : W.heap.size = H) (hn : n ≤ 1000000000) (hbase : base ≤ W.heap.size)
    (h : ∀ g cap W', W'.ownsRow base 5 1 (.slice (some ⟨g, 0, none⟩) (n + 1) cap) (n + 1) (xs ++ [.int .u8 y]) → (W.alloc (.cells #[.int .u8 y] 5)).grownBy W' v.ownBlock → wpList Tryd.prog ops Q rest (a.put o.dst (.slice (some ⟨g, 0, none⟩) (n + 1) cap)) W') :
    wpList Tryd.prog ops Q (o :: rest) a (W.alloc (.cells #[.int .u8 y] 5)) := by
  subst hH
  obtain ⟨i0, hinf, hz0, hz1, hz2⟩ := info_parts Tryd.info_u8
  refine wpList_append_lies _ hgd s x 45 ho base 5 i0 (.int .u8 0) 1 1 Tryd.underlying45 hinf hz0 hz1 hz2 rfl (by decide) v n xs hs (hown.alloc _) ⟨W.heap.size, 0, none⟩ 1 1 [.int .u8 y] hx rfl
    (World.news_of_block (cs := #[.int .u8 y]) (t := 5) (fr := (0, 0)) (heap_alloc_new W _)) (by simp [Value.oneCell']) (by decide) (by unfold maxLen; omega) (by omega) (by simp; omega) _ rfl ?_
  intro g cap W' h1 h2 _ _
  exact h g cap W' h1 h2
theorem wpList_appI {ops : Array Oper} {rest : List Oper} {o : Oper} {a : Act} {Q : Exit → Act → World → Prop} {W : World} {y : Int} {base n : Nat} {v : Value} {xs : List Value} (hgd : o.guard = none) (s x : Operand)
    (ho : o.op = .call { callee := .builtin .append, args := #[s, x], argTypes := #[30, 30] }) (hs : a.eval s = v) (hown : W.ownsRow base 3 1 v n xs)
    (H : Nat) (hx : a.eval x = .slice (some ⟨H, 0, none⟩) 1 1) (hH : W.heap.size = H) (hn : n ≤ 1000000000) (hbase : base ≤ W.heap.size)
    (h : ∀ g cap W', W'.ownsRow base 3 1 (.slice (some ⟨g, 0, none⟩) (n + 1) cap) (n + 1) (xs ++ [.int .i64 y]) → (W.alloc (.cells #[.int .i64 y] 3)).grownBy W' v.ownBlock → wpList Tryd.prog ops Q rest (a.put o.dst (.slice (some ⟨g, 0, none⟩) (n + 1) cap)) W') :
    wpList Tryd.prog ops Q (o :: rest) a (W.alloc (.cells #[.int .i64 y] 3)) := by
  subst hH
  obtain ⟨i0, hinf, hz0, hz1, hz2⟩ := info_parts Tryd.info_int
  refine wpList_append_lies _ hgd s x 30 ho base 3 i0 (.int .i64 0) 1 8 Tryd.underlying30 hinf hz0 hz1 hz2 rfl (by decide) v n xs hs (hown.alloc _) ⟨W.heap.size, 0, none⟩ 1 1 [.int .i64 y] hx rfl
    (World.news_of_block (cs := #[.int .i64 y]) (t := 3) (fr := (0, 0)) (heap_alloc_new W _)) (by simp [Value.oneCell']) (by decide) (by unfold maxLen; omega) (by omega) (by simp; omega) _ rfl ?_
  intro g cap W' h1 h2 _ _
  exact h g cap W' h1 h2
theorem wpList_appS {ops : Array Oper} {rest : List Oper} {o : Oper} {a : Act} {Q : Exit → Act → World → Prop} {W : World} {base n : Nat} {v : Value} {xs : List Value} {t : ByteArray} (hgd : o.guard = none) (s x : Operand)
    (ho : o.op = .call { callee := .builtin .append, args := #[s, x], argTypes := #[45, 9] }) (hs : a.eval s = v) (hown : W.ownsRow base 5 1 v n xs)
    (hx : a.eval x = .string t) (hn : n ≤ 1000000000) (ht : t.size ≤ 1000000) (hbase : base ≤ W.heap.size)
    (h : ∀ v' W', W'.ownsRow base 5 1 v' (n + t.size) (xs ++ Lib.strCells t) → W.grownBy W' v.ownBlock → wpList Tryd.prog ops Q rest (a.put o.dst v') W') :
    wpList Tryd.prog ops Q (o :: rest) a W := by
  obtain ⟨i0, hinf, hz0, hz1, hz2⟩ := info_parts Tryd.info_u8
  refine Lib.wpList_append_own_string _ hgd s x 45 9 ho base 5 i0 Tryd.underlying45 Tryd.underlying9 hinf hz0 hz1 hz2 v n xs hs hown t hx (by unfold maxLen; omega) (by omega) hbase ?_
  intro v' W' h1 h2 _
  exact h v' W' h1 h2
theorem l3Written_any (nd : Nd) (q : Int) (w : World) (hs : nd.text.size ≤ 20000) (hk : nodeOk nd = true) (h1 : nd.kind ≠ 1) :
    Calls Tryd.prog 24 #[.agg #[.int .i64 nd.kind, .string nd.text, .int .i64 nd.kids, .int .i64 q]] w fun e w' => e = .returned (.string (strOf (tokT nd.kind nd.text.data.toList))) ∧ Below w.heap.size w w' := by
  obtain ⟨_, _, hw⟩ := nodeOk_split hk
  obtain ⟨kind, text, kids⟩ := nd
  dsimp only at *
  by_cases h2 : kind = 2
  · subst h2; exact l3Written_2 text kids q w hs
  by_cases h3 : kind = 3 ∨ kind = 4
  · exact l3Written_n kind text kids q w h3
  by_cases h5 : kind = 5
  · subst h5; exact l3Written_5 text kids q w hs
  by_cases h6 : kind = 6
  · subst h6; exact l3Written_6 text kids q w hs
  by_cases h7 : kind = 7
  · subst h7; exact l3Written_7 text kids q w hs
  exfalso
  simp only [wordOk, if_neg h1, if_neg h2, if_neg (fun e => h3 (.inl e)), if_neg (fun e => h3 (.inr e)), if_neg h5, if_neg h6, if_neg h7] at hw
  cases hw
theorem last_dg {t : List UInt8} (h : t.all dg = true) (h0 : t ≠ []) : ∃ p c, t = p ++ [c] ∧ c ≠ 40 := by
  refine ⟨t.dropLast, t.getLast h0, (List.dropLast_concat_getLast h0).symm, ?_⟩
  intro e
  rw [List.all_eq_true] at h
  have := h _ (List.getLast_mem h0)
  rw [e] at this
  exact absurd this (by decide)
theorem last_all {p : UInt8 → Bool} (hp : p 40 = false) {t : List UInt8} (h : t.all p = true) (h0 : t ≠ []) : ∃ q c, t = q ++ [c] ∧ c ≠ 40 := by
  refine ⟨t.dropLast, t.getLast h0, (List.dropLast_concat_getLast h0).symm, ?_⟩
  intro e
  rw [List.all_eq_true] at h
  have := h _ (List.getLast_mem h0)
  rw [e, hp] at this
  cases this
theorem last_cons {c : UInt8} {t : List UInt8} (h : ∃ p d, t = p ++ [d] ∧ d ≠ 40) : ∃ p d, c :: t = p ++ [d] ∧ d ≠ 40 := by
  obtain ⟨p, d, rfl, hd⟩ := h
  exact ⟨c :: p, d, rfl, hd⟩
theorem tok_last {nd : Nd} (hk : nodeOk nd = true) (h1 : nd.kind ≠ 1) : ∃ p c, tokT nd.kind nd.t = p ++ [c] ∧ c ≠ 40 := by
  obtain ⟨_, _, hw⟩ := nodeOk_split hk
  generalize nd.t = t at *
  generalize nd.kind = kind at *
  by_cases h2 : kind = 2
  · subst h2
    show ∃ p c, (if plainN t then t else 124 :: (t ++ [124])) = p ++ [c] ∧ c ≠ 40
    split
    · rename_i hp
      obtain ⟨h0, _, ha⟩ := plainN_split hp
      exact last_all (by decide) ha h0
    · exact ⟨124 :: t, 124, rfl, by decide⟩
  by_cases h3 : kind = 3
  · subst h3
    show ∃ p c, t = p ++ [c] ∧ c ≠ 40
    have hw' : numOk false t = true := hw
    simp only [numOk, Bool.and_eq_true, decide_eq_true_eq] at hw'
    obtain ⟨⟨h0, _⟩, h4⟩ := hw'
    simp only [Bool.false_eq_true, if_false, Bool.and_eq_true, decide_eq_true_eq] at h4
    refine last_dg (runL_eq_len h4.2) ?_
    rintro rfl
    simp [runL] at h0
  by_cases h4 : kind = 4
  · subst h4
    show ∃ p c, t = p ++ [c] ∧ c ≠ 40
    have hw' : numOk true t = true := hw
    obtain ⟨k, hk⟩ : ∃ k, runL dg t = k := ⟨_, rfl⟩
    simp only [numOk, hk, Bool.and_eq_true, decide_eq_true_eq, if_true] at hw'
    obtain ⟨⟨h0, _⟩, h5, h6⟩ := hw'
    cases hd : t.drop k with
    | nil => rw [hd] at h5; simp at h5
    | cons c r =>
      rw [hd] at h5 h6
      simp only at h5 h6
      by_cases hc : c = 46
      · rw [if_pos hc] at h5 h6
        have hl : t = t.take k ++ (c :: r) := by rw [← hd, List.take_append_drop]
        have hlen : t.length = k + (r.length + 1) := by
          have := congrArg List.length hl
          rw [List.length_append, List.length_take, List.length_cons] at this
          have hkl := runL_le dg t
          omega
        obtain ⟨p, d, hr, hd2⟩ := last_dg (t := r) (runL_eq_len (by omega)) (by rintro rfl; simp [runL] at h5)
        exact ⟨t.take k ++ (c :: p), d, hl.trans (by rw [hr]; simp), hd2⟩
      · rw [if_neg hc] at h5; omega
  by_cases h5 : kind = 5
  · subst h5
    have hw' : (!t.isEmpty && t.all bitB) = true := hw
    rw [Bool.and_eq_true, Bool.not_eq_true', List.isEmpty_eq_false_iff] at hw'
    exact last_cons (last_cons (last_all (by decide) hw'.2 hw'.1))
  by_cases h6 : kind = 6
  · subst h6; exact ⟨34 :: dbl t, 34, rfl, by decide⟩
  by_cases h7 : kind = 7
  · subst h7
    have hw' : (!t.isEmpty && t.all nameB) = true := hw
    rw [Bool.and_eq_true, Bool.not_eq_true', List.isEmpty_eq_false_iff] at hw'
    exact last_cons (last_all (by decide) hw'.2 hw'.1)
  exfalso
  simp only [wordOk, if_neg h1, if_neg h2, if_neg h3, if_neg h4, if_neg h5, if_neg h6, if_neg h7] at hw
  cases hw
end Go.Proofs.YtdphpfffofeklaaDoor.T
namespace Go.Proofs.YtdphpfffofeklaaDoor.T
open Go.ChangeShapes Go.WideShapes Go.ChangeAt Go.RowKit
theorem fitF_step {n : Nd} {r : List Nd} {z : Nat} {l : List Int} (h : fitF (n :: r) z l = true) : z + n.text.size ≤ 20000 ∧ nodeOk n = true ∧ ¬ (n.kind = 1 ∧ l.length = 200) ∧ fitF r (z + n.text.size) (stepL n l) = true := by
  rw [fitF_cons] at h
  split at h
  · cases h
  · rename_i hc
    refine ⟨by omega, ?_, fun e => hc (.inr (.inr e)), h⟩
    cases hk : nodeOk n with
    | true => rfl
    | false => exact absurd (.inr (.inl hk)) hc
theorem stepL_len {n : Nd} {l : List Int} (h : l.length ≤ 200) (h1 : ¬ (n.kind = 1 ∧ l.length = 200)) : (stepL n l).length ≤ 200 ∧ closedL n l ≤ 201 := by
  have e1 := popZ_len (pushL n l)
  have e2 := pushL_len n l
  unfold closedL stepL
  split at e2
  · rename_i hk
    have : l.length ≠ 200 := fun e => h1 ⟨hk, e⟩
    omega
  · omega
theorem cells_of {W : World} {g : Nat} {v0 v1 v2 v3 : Value} {t : TypeId} (h : W.heap[g]? = some (.cells #[v0, v1, v2, v3] t (0, 0))) : W.cell? ⟨g, 0, none⟩ = some v0 ∧ W.cell? ⟨g, 1, none⟩ = some v1 ∧ W.cell? ⟨g, 2, none⟩ = some v2 ∧ W.cell? ⟨g, 3, none⟩ = some v3 := by
  refine ⟨?_, ?_, ?_, ?_⟩ <;> rw [Lib.cell_of_heap h] <;> rfl
theorem byteCells_snoc (l : List UInt8) (c : UInt8) : Lib.byteCells l ++ [Value.int .u8 (c.toNat : Int)] = Lib.byteCells (l ++ [c]) := by simp [Lib.byteCells]
end Go.Proofs.YtdphpfffofeklaaDoor.T
