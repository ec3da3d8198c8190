import Derived.Test.YtdngpnlbhadbpaaDoorTkI
import Derived.Test.YtdngpnlbhadbpaaDoorTrIs
namespace Go.Proofs.YtdngpnlbhadbpaaDoor
open Go.ChangeShapes Go.WideShapes Go.ChangeAt Go.RowKit
/-- A token of bits, behind its mark: its kind, text and size. -/
def bitsL : List UInt8 → Option (Int × List UInt8 × Nat)
  | [] => none
  | d :: v =>
    if d.toNat = 98 then (if runL bitB v = 0 then none else some (5, v.take (runL bitB v), 2 + runL bitB v))
    else if d.toNat = 120 then (if runL hexB v = 0 then none else some (5, hexL (v.take (runL hexB v)), 2 + runL hexB v))
    else none
/-- The token at the beginning of a text: its kind, text and size. -/
def tokL : List UInt8 → Option (Int × List UInt8 × Nat)
  | [] => none
  | c :: u =>
    if c.toNat = 34 then (scanT u).map (fun x => (6, x.1, x.2 + 1))
    else if c.toNat = 124 then (if u[runL barB u]? = some 124 then some (2, u.take (runL barB u), runL barB u + 2) else none)
    else if c.toNat = 58 then (if runL nameB u = 0 then none else some (7, u.take (runL nameB u), runL nameB u + 1))
    else if c.toNat = 35 then bitsL u
    else if dg c then (if (tokN (c :: u)).1 = 0 then none else some ((tokN (c :: u)).1, (c :: u).take (tokN (c :: u)).2, (tokN (c :: u)).2))
    else if nameB c then some (2, (c :: u).take (runL nameB (c :: u)), runL nameB (c :: u))
    else none
def specR (o : Option (Int × List UInt8 × Nat)) (i : Nat) : Ending := match o with
  | none => resK 0 ⟨#[]⟩ 0
  | some (k, t, n) => resK k (strOf t) (i + n)
def implR (o : Option (Int × List UInt8 × Nat)) : Ending := match o with
  | none => resN 0 ⟨#[]⟩ 0
  | some (k, t, n) => resN k (strOf t) n
theorem scanT_n : ∀ (m : Nat) (l t : List UInt8) (n : Nat), l.length ≤ m → scanT l = some (t, n) → 0 < n ∧ n ≤ l.length
  | _, [], t, n, _, h => by simp [scanT] at h
  | 0, c :: r, t, n, hm, _ => by simp at hm
  | m + 1, c :: r, t, n, hm, h => by
    have hm' : r.length ≤ m := by simpa using hm
    by_cases hc : c = 34
    · subst hc
      match r, h, hm' with
      | [], h, _ => rw [scanT_end] at h; cases h; simp
      | d :: r', h, hm' =>
        by_cases hd : d = 34
        · subst hd
          rw [scanT_two] at h
          cases hx : scanT r' with
          | none => rw [hx] at h; simp at h
          | some x =>
            rw [hx] at h
            have := scanT_n m r' x.1 x.2 (by simp at hm'; omega) hx
            simp at h
            obtain ⟨_, rfl⟩ := h
            simp; omega
        · rw [scanT_one hd] at h; cases h; simp
    · rw [scanT_other hc] at h
      split at h
      · cases hx : scanT r with
        | none => rw [hx] at h; simp at h
        | some x =>
          rw [hx] at h
          have := scanT_n m r x.1 x.2 hm' hx
          simp at h
          obtain ⟨_, rfl⟩ := h
          simp; omega
      · cases h
theorem partL_len (t : List UInt8) (k : Nat) (h : 0 < partL t k) : k + 1 + partL t k ≤ t.length := by
  unfold partL at h ⊢
  cases hd : t.drop k with
  | nil => rw [hd] at h; simp at h
  | cons c r =>
    rw [hd] at h
    have hl := congrArg List.length hd
    rw [List.length_drop, List.length_cons] at hl
    have := runL_le dg r
    simp only at h ⊢
    split at h
    · rename_i hc; rw [if_pos hc]; omega
    · simp at h
theorem tokL_some {l : List UInt8} {k : Int} {t : List UInt8} {n : Nat} (h : tokL l = some (k, t, n)) : 0 < n ∧ n ≤ l.length ∧ k ≠ 1 ∧ k ≠ 0 := by
  cases l with
  | nil => cases h
  | cons c u =>
    unfold tokL at h
    simp only at h
    split at h
    · cases hx : scanT u with
      | none => rw [hx] at h; cases h
      | some x =>
        rw [hx] at h
        have := scanT_n _ u x.1 x.2 (Nat.le_refl _) hx
        simp at h
        obtain ⟨rfl, _, rfl⟩ := h
        simp; omega
    split at h
    · split at h
      · rename_i h2
        obtain ⟨h3, _⟩ := List.getElem?_eq_some_iff.1 h2
        cases h; simp; omega
      · cases h
    split at h
    · split at h
      · cases h
      · have := runL_le nameB u
        cases h; simp; omega
    split at h
    · cases u with
      | nil => cases h
      | cons d v =>
        unfold bitsL at h
        simp only at h
        split at h
        · split at h
          · cases h
          · have := runL_le bitB v
            cases h; simp; omega
        split at h
        · split at h
          · cases h
          · have := runL_le hexB v
            cases h; simp; omega
        cases h
    split at h
    · rename_i hdg
      split at h
      · cases h
      · rename_i hk
        have e : ∀ x : Int × Nat, tokN (c :: u) = x → x.1 ≠ 0 → 0 < x.2 ∧ x.2 ≤ (c :: u).length ∧ x.1 ≠ 1 := fun x hx h0 => by
          have hp : 0 < runL dg (c :: u) := by unfold runL; rw [if_pos hdg]; omega
          have hl := runL_le dg (c :: u)
          unfold tokN at hx
          split at hx
          · rw [← hx] at h0; simp at h0
          split at hx
          · rename_i h4
            have := partL_len _ _ h4
            rw [← hx]; simp only; omega
          · rw [← hx]; simp only; omega
        have := e _ rfl hk
        cases h
        exact ⟨this.1, this.2.1, this.2.2, hk⟩
    split at h
    · rename_i hn
      have hl := runL_le nameB (c :: u)
      have hp : 0 < runL nameB (c :: u) := by unfold runL; rw [if_pos hn]; omega
      cases h
      exact ⟨hp, hl, by decide, by decide⟩
    cases h
theorem ext_drop (s : ByteArray) (i r : Nat) : s.extract i (i + r) = strOf ((s.data.toList.drop i).take r) := by
  apply ba_eq
  rw [ext_list, strOf_toList, List.drop_take]
  congr 1
  omega
theorem ext_drop1 (s : ByteArray) (i r : Nat) : s.extract (i + 1) (i + 1 + r) = strOf ((s.data.toList.drop (i + 1)).take r) := ext_drop s (i + 1) r
end Go.Proofs.YtdngpnlbhadbpaaDoor
