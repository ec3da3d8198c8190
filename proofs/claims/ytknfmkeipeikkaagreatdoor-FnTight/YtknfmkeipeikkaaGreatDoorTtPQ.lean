import Derived.Test.YtknfmkeipeikkaaGreatDoorTxA
import Derived.Test.YtknfmkeipeikkaaGreatDoorTgFXp
import Derived.Test.YtknfmkeipeikkaaGreatDoorTLRp
import Derived.Test.YtknfmkeipeikkaaGreatDoorU1p
import Derived.Test.YtknfmkeipeikkaaGreatDoorU5p
import Derived.Test.YtknfmkeipeikkaaGreatDoorTgQVp
namespace Go.Proofs.YtknfmkeipeikkaaGreatDoor
open Go.ChangeShapes Go.WideShapes Go.ChangeAt Go.RowKit
theorem strB_ext0 (c : UInt8) (l : List UInt8) : ((strB (c :: l)).extract 0 1).toList = [c] := by
  rw [ByteArray.toList_eq]
  simp [strB]
theorem strB_ext1 (c : UInt8) (l : List UInt8) : ((strB (c :: l)).extract 1 (strB (c :: l)).size).data.toList = l := by
  rw [strB_size]
  simp [strB]
theorem low_bd {x y a b : Int} {k : Nat} (h : IsLow x y a b) (hx : x.natAbs < lb k) (hy : y.natAbs < lb k) : a.natAbs < lb k ∧ b.natAbs < lb k := by
  obtain ⟨c, c0, e1, e2, _⟩ := h
  have h1 := abs_le_mul a c c0
  have h2 := abs_le_mul b c c0
  rw [← e1] at h1
  rw [← e2] at h2
  exact ⟨Nat.lt_of_le_of_lt h1 hx, Nat.lt_of_le_of_lt h2 hy⟩
theorem int_bytes (s : Bool) (c : UInt8) (l : List UInt8) (hall : (c :: l).all isDig = true) (hc : c ≠ 48) (hlen : l.length + 1 ≤ 2500) : isIntB (strB ((if s then [45] else []) ++ c :: l)) = true := by
  have hc45 : c ≠ 45 := fun e => by
    rw [e] at hall
    simp [isDig] at hall
  cases s
  · have e1 : ((if false = true then [45] else []) ++ c :: l : List UInt8) = c :: l := rfl
    have en : isNeg (strB (c :: l)) = false := by
      unfold isNeg
      rw [strB_ext0]
      simp [hc45]
    have ed : dgs (strB (c :: l)) = strB (c :: l) := by unfold dgs; rw [en]; rfl
    have hb : (strB (c :: l)).data.toList = c :: l := by simp [strB]
    have hsz : (strB (c :: l)).size = l.length + 1 := by rw [strB_size]; rfl
    rw [e1]
    unfold isIntB
    rw [ed, hb, hsz, hall]
    simp [hlen, hc]
  · have e1 : ((if true = true then [45] else []) ++ c :: l : List UInt8) = 45 :: c :: l := rfl
    have en : isNeg (strB (45 :: c :: l)) = true := by
      unfold isNeg
      rw [strB_ext0]
      rfl
    have ed : (dgs (strB (45 :: c :: l))).data.toList = c :: l := by
      unfold dgs
      rw [en]
      exact strB_ext1 45 _
    have hsz : (dgs (strB (45 :: c :: l))).size = l.length + 1 := by
      have h5 : (dgs (strB (45 :: c :: l))).data.toList.length = (dgs (strB (45 :: c :: l))).size := by simp
      rw [← h5, ed]
      rfl
    rw [e1]
    unfold isIntB
    rw [ed, hsz, hall]
    simp [hlen, hc]
theorem all_dig {l : List UInt8} (h : ∀ c ∈ l, dig c) : l.all isDig = true := by
  rw [List.all_eq_true]
  intro c hc
  have := h c hc
  unfold isDig
  rw [decide_eq_true_iff]
  exact this
theorem zero_int : isIntB (strB [48]) = true := by
  have en : isNeg (strB [48]) = false := by
    unfold isNeg
    rw [strB_ext0]
    rfl
  have ed : dgs (strB [48]) = strB [48] := by unfold dgs; rw [en]; rfl
  have hb : (strB [48]).data.toList = [48] := by simp [strB]
  have hs : (strB [48]).size = 1 := by rw [strB_size]; rfl
  unfold isIntB
  rw [ed, hs, ByteArray.toList_eq, hb]
  decide
/-- A text of a number that is not too long is an int text. -/
theorem text_int {x : Int} {u : ByteArray} (h : IsText x u) (hu : u ≠ strB []) : isIntB u = true := by
  obtain ⟨neg, t, ok, tr, _, rfl⟩ := h
  unfold textT at *
  by_cases h0 : t.length = 0
  · rw [if_pos h0]; exact zero_int
  · rw [if_neg h0] at hu ⊢
    unfold textS at *
    by_cases h1 : 2500 < (textD t).length
    · rw [if_pos h1] at hu; exact absurd rfl hu
    · rw [if_neg h1]
      have hl := textD_ge t ok tr (by intro e; rw [e] at h0; simp at h0)
      have hd := textD_dig t
      have hh := textD_head t
      cases ht : textD t with
      | nil => rw [ht] at hl; simp at hl
      | cons c r =>
        rw [ht] at hd hh h1
        have hc : c ≠ 48 := fun e => hh (by rw [e]; rfl)
        have := int_bytes (negOf neg t) c r (all_dig hd) hc (by simpa using h1)
        cases hn : negOf neg t
        · rw [hn] at this; exact this
        · rw [hn] at this; exact this
theorem text_num {x : Int} {u : ByteArray} (h : IsText x u) (hu : u ≠ strB []) : isIntB u = true ∧ numT u = x := by
  have hi := text_int h hu
  exact ⟨hi, text_inj (text_back u hi) h hu⟩
theorem num_cons (c : UInt8) (r : List UInt8) : num (c :: r) = (c.toNat - 48) * 10 ^ r.length + num r := by
  obtain ⟨n, hn⟩ : ∃ n, r.length = n := ⟨_, rfl⟩
  induction n generalizing r with
  | zero =>
    have : r = [] := List.eq_nil_of_length_eq_zero hn
    subst this
    simp [num]
  | succ n ih =>
    obtain ⟨a, b, rfl⟩ : ∃ a b, r = a ++ [b] := ⟨r.dropLast, r.getLast (by intro e; rw [e] at hn; cases hn), (List.dropLast_concat_getLast _).symm⟩
    have hla : a.length = n := by simpa using hn
    have e1 : c :: (a ++ [b]) = (c :: a) ++ [b] := rfl
    rw [e1, num_snoc, num_snoc, ih a hla]
    simp only [List.length_append, List.length_cons, List.length_nil, Nat.zero_add, Nat.pow_succ]
    rw [Nat.add_mul, Nat.mul_assoc]
    omega
/-- How long the digits are, and how large the number. -/
theorem digits_len (t : List Nat) (ok : okL t) (tr : isTrim t) (h0 : t ≠ []) (K : Nat) : K < (textD t).length ↔ 10 ^ K ≤ val t := by
  have hl := textD_ge t ok tr h0
  have hd := textD_dig t
  have hh := textD_head t
  have hn := num_textD t ok
  have hu := num_lt (textD t) hd
  constructor
  · intro h
    cases ht : textD t with
    | nil => rw [ht] at h; simp at h
    | cons c r =>
      rw [ht] at hd hh h hn
      have hc : c ≠ 48 := fun e => hh (by rw [e]; rfl)
      have h1 := hd c (by simp)
      have h2 : 49 ≤ c.toNat := by
        have h3 : c.toNat ≠ 48 := fun e => hc (UInt8.toNat_inj.1 (by rw [e]; rfl))
        have := h1.1
        omega
      have h3 := num_cons c r
      have h4 : 10 ^ K ≤ 10 ^ r.length := Nat.pow_le_pow_right (by decide) (by simpa using Nat.lt_succ_iff.1 h)
      have h5 : 1 * 10 ^ r.length ≤ (c.toNat - 48) * 10 ^ r.length := Nat.mul_le_mul_right _ (by omega)
      omega
  · intro h
    rcases Nat.lt_or_ge K (textD t).length with h1 | h1
    · exact h1
    · have h2 := Nat.pow_le_pow_right (n := 10) (by decide) h1
      omega
theorem int_noslash {s : ByteArray} (h : isIntB s = true) : ∀ j : Nat, s.data.toList[j]? ≠ some 47 := by
  have hd := (isIntB_dig s h).1
  have hall : ∀ c ∈ s.data.toList, c ≠ 47 := by
    intro c hc e
    cases hn : isNeg s
    · have := pos_text s hn
      rw [this] at hc
      have hc' : c ∈ (dgs s).data.toList := by simpa [strB] using hc
      have := hd c hc'
      rw [e] at this
      exact absurd this.1 (by decide)
    · have := neg_text s hn
      rw [this] at hc
      have hc' : c = 45 ∨ c ∈ (dgs s).data.toList := by simpa [strB] using hc
      rcases hc' with h1 | h1
      · rw [e] at h1; exact absurd h1 (by decide)
      · have := hd c h1
        rw [e] at this
        exact absurd this.1 (by decide)
  intro j hj
  exact hall 47 (List.mem_of_getElem? hj) rfl
theorem size_ne {u : ByteArray} : u ≠ strB [] ↔ u.size ≠ 0 := by
  constructor
  · intro h e
    refine h (ByteArray.ext ?_)
    have : u.data.size = 0 := e
    rw [Array.eq_empty_of_size_eq_zero this]
    rfl
  · rintro h rfl
    exact h (strB_size [])
theorem ba_ext {a b : ByteArray} (h : a.data.toList = b.data.toList) : a = b := ByteArray.ext (Array.toList_inj.1 h)
theorem ext_drop (s : ByteArray) (a : Nat) : (s.extract a s.size).data.toList = s.data.toList.drop a := by
  rw [ByteArray.data_extract, Array.toList_extract]
  show (s.data.toList.drop a).take (s.size - a) = _
  exact List.take_of_length_le (by rw [List.length_drop]; exact Nat.le_refl _)
theorem slash_list (p q : ByteArray) : (p ++ ⟨#[47]⟩ ++ q).data.toList = p.data.toList ++ 47 :: q.data.toList := by simp
/-- A text of a number in lowest terms, where it has one, is a rat text of that number. -/
theorem text_ratV {z : ByteArray} {p q : Int} (h : TextR p q z) (h0 : 0 < q) (hg : Int.gcd p q = 1) (hz : z ≠ strB []) : ∃ k, IsCut z k ∧ RatV z k p q := by
  unfold TextR at h
  by_cases h1 : q = 1
  · rw [if_pos h1] at h
    obtain ⟨i1, i2⟩ := text_num h hz
    exact ⟨none, int_noslash i1, i1, i2.symm, h1⟩
  · rw [if_neg h1] at h
    obtain ⟨u, v, hu, hv, rfl⟩ := h
    by_cases h2 : u.size = 0 ∨ v.size = 0
    · rw [if_pos h2] at hz
      exact absurd rfl hz
    · rw [if_neg h2]
      have nu : u ≠ strB [] := size_ne.2 (by omega)
      have nv : v ≠ strB [] := size_ne.2 (by omega)
      obtain ⟨i1, i2⟩ := text_num hu nu
      obtain ⟨j1, j2⟩ := text_num hv nv
      have hsl := slash_list u v
      have hlen : u.data.toList.length = u.size := by simp
      have e1 : cutP (u ++ ⟨#[47]⟩ ++ v) (some u.size) = u := ba_ext (by
        have : (cutP (u ++ ⟨#[47]⟩ ++ v) (some u.size)).data.toList = (u ++ ⟨#[47]⟩ ++ v).data.toList.take u.size := by simp [cutP]
        rw [this, hsl, List.take_append_of_le_length (by omega), List.take_of_length_le (by omega)])
      have e2 : cutQ (u ++ ⟨#[47]⟩ ++ v) (some u.size) = v := ba_ext (by
        have : (cutQ (u ++ ⟨#[47]⟩ ++ v) (some u.size)).data.toList = (u ++ ⟨#[47]⟩ ++ v).data.toList.drop (u.size + 1) := ext_drop _ _
        rw [this, hsl, ← hlen, List.drop_append, List.drop_eq_nil_of_le (by omega)]
        simp)
      refine ⟨some u.size, ⟨?_, ?_⟩, ?_⟩
      · rw [hsl, List.getElem?_append_right (by omega), hlen, Nat.sub_self]
        rfl
      · intro j hj
        rw [hsl, List.getElem?_append_left (by omega)]
        exact int_noslash i1 j
      · show (isIntB (cutP _ _) = true ∧ isIntB (cutQ _ _) = true) ∧ (numT (cutQ _ _) ≠ 0 ∧ cutP _ _ ≠ strB [48] ∧ cutQ _ _ ≠ strB [49] ∧ isNeg (cutQ _ _) = false ∧ Int.gcd (numT (cutP _ _)) (numT (cutQ _ _)) = 1) ∧ p = numT (cutP _ _) ∧ q = numT (cutQ _ _)
        rw [e1, e2]
        refine ⟨⟨i1, j1⟩, ⟨by omega, ?_, ?_, numT_neg v (by omega), by rw [i2, j2]; exact hg⟩, i2.symm, j2.symm⟩
        · rintro rfl
          rw [num_nil] at i2
          rw [← i2] at hg
          have : q.natAbs = 1 := by simpa using hg
          omega
        · rintro rfl
          rw [num_one] at j2
          exact h1 j2.symm
theorem low_gcd {x y p q : Int} (h : IsLow x y p q) : Int.gcd p q = 1 := by
  obtain ⟨d, d0, e3, e4, b0, g2⟩ := h
  rw [e3, e4, Int.gcd_mul_right] at g2
  have h3 : 0 < d.natAbs := Int.natAbs_pos.2 d0
  have h4 : 1 * d.natAbs = Int.gcd p q * d.natAbs := by rw [Nat.one_mul]; exact g2
  exact (Nat.eq_of_mul_eq_mul_right h3 h4).symm
/-- A number of at most 2500 digits has a text. -/
theorem text_has {x : Int} {u : ByteArray} (hu : IsText x u) (h : x.natAbs < 10 ^ 2500) : u ≠ strB [] := by
  obtain ⟨n1, t1, o1, r1, e1, rfl⟩ := hu
  rw [← e1, sg_abs] at h
  unfold textT
  by_cases h1 : t1.length = 0
  · rw [if_pos h1]; decide
  · have z1 : t1 ≠ [] := by intro e; rw [e] at h1; simp at h1
    rw [if_neg h1]
    unfold textS
    have h4 : ¬ 2500 < (textD t1).length := fun h5 => Nat.not_le_of_lt h ((digits_len t1 o1 r1 z1 2500).1 h5)
    rw [if_neg h4]
    have := textD_ge t1 o1 r1 z1
    split
    · rw [size_ne, strB_size]; simp
    · rw [size_ne, strB_size]; omega
/-- A text of few digits is of a small number. -/
theorem num_small {b : ByteArray} (h : isIntB b = true) (n : Nat) (hn : b.size ≤ n) : (numT b).natAbs < 10 ^ n := by
  have hd := isIntB_dig b h
  have e := text_back b h
  have hne := text_ne b h
  obtain ⟨neg, t, ok, tr, ex, eb⟩ := e
  rw [← ex, sg_abs]
  unfold textT at eb
  by_cases h1 : t.length = 0
  · have : t = [] := List.eq_nil_of_length_eq_zero h1
    rw [this]
    exact Nat.pow_pos (by decide)
  · have z1 : t ≠ [] := by intro e; rw [e] at h1; simp at h1
    rw [if_neg h1] at eb
    unfold textS at eb
    by_cases h2 : 2500 < (textD t).length
    · rw [if_pos h2] at eb; exact absurd eb hne
    · rw [if_neg h2] at eb
      have h3 : (textD t).length ≤ n := by
        rw [eb] at hn
        split at hn <;> rw [strB_size] at hn
        · rw [List.length_cons] at hn; omega
        · exact hn
      exact Nat.lt_of_not_le fun h5 => Nat.not_lt_of_le h3 ((digits_len t ok tr z1 n).2 h5)
end Go.Proofs.YtknfmkeipeikkaaGreatDoor

namespace Go.Proofs.YtknfmkeipeikkaaGreatDoor.L
open Go.ChangeShapes Go.WideShapes Go.ChangeAt Go.RowKit
def RatIs (s : List UInt8) (x y : Int) : Prop := ∃ k, IsCut (strOf s) k ∧ RatV (strOf s) k x y
def Comm (V : List (Int × Int)) (N : List Int) (D : Int) : Prop := N.length = V.length ∧ 0 < D ∧ ∀ i (_ : i < V.length) (_ : i < N.length), N[i] * V[i].2 = V[i].1 * D
def dotN (a n : Nat → Int) : Nat → Int
  | 0 => 0
  | k + 1 => dotN a n k + a k * n k
def metB (S T : Int) (st : Bool) : Bool := decide (S < T) || (decide (S = T) && !st)
def ordB (r : Int) (st : Bool) : Bool := decide (r < 0) || (decide (r = 0) && !st)
theorem metB_ord (x y : Int) (st : Bool) : metB x y st = ordB (ordI x y) st := by
  unfold metB ordB ordI
  by_cases h1 : x < y
  · simp [h1]
  · by_cases h2 : y < x
    · have h3 : ¬ x = y := by omega
      simp [h1, h2, h3]
    · have h3 : x = y := by omega
      simp [h3]
def numsOf (N : List Int) (i : Nat) : Int := N.getD i 0
def csOf (n : Nr) (i : Nat) : Int := n.cs.getD i 0
/-- Whether a row is met by the numbers N over D. -/
def metN (N : List Int) (D : Int) (n : Nr) : Bool := metB (dotN (csOf n) (numsOf N) N.length) (n.bd * D) n.st
def ansN (G : List Nr) (N : List Int) (D : Int) : Bool := G.all (metN N D)
theorem metB_scale {S S' T T' D D' : Int} {st : Bool} (hD : 0 < D) (hD' : 0 < D') (h1 : S * D' = S' * D) (h2 : T * D' = T' * D) : metB S T st = metB S' T' st := by
  have e1 : (S < T) ↔ (S' < T') := by
    rw [← Int.mul_lt_mul_right hD', h1, h2, Int.mul_lt_mul_right hD]
  have e2 : (S = T) ↔ (S' = T') := by
    constructor
    · intro e
      rw [e, h2] at h1
      exact (Int.eq_of_mul_eq_mul_right (Int.ne_of_gt hD) h1).symm
    · intro e
      rw [← e, ← h1] at h2
      exact (Int.eq_of_mul_eq_mul_right (Int.ne_of_gt hD') h2).symm
  unfold metB
  rw [decide_eq_decide.2 e1, decide_eq_decide.2 e2]
theorem comm_ex : ∀ (V : List (Int × Int)), (∀ x ∈ V, 0 < x.2) → ∃ N D, Comm V N D := by
  intro V
  induction V with
  | nil => intro _; exact ⟨[], 1, rfl, by decide, fun i h => absurd h (Nat.not_lt_zero _)⟩
  | cons v V ih =>
    intro h
    obtain ⟨N, D, h1, h2, h3⟩ := ih (fun x hx => h x (List.mem_cons_of_mem _ hx))
    have hv : 0 < v.2 := h v (List.mem_cons_self ..)
    refine ⟨v.1 * D :: N.map (· * v.2), D * v.2, by simp [h1], Int.mul_pos h2 hv, fun i hi hi' => ?_⟩
    match i, hi, hi' with
    | 0, _, _ => simp only [List.getElem_cons_zero]; rw [Int.mul_assoc]
    | i + 1, hi, hi' =>
      simp only [List.getElem_cons_succ, List.getElem_map]
      have := h3 i (by simpa using hi) (by simpa using hi')
      rw [Int.mul_right_comm, this, Int.mul_assoc]
theorem RatIs.pos {s : List UInt8} {x y : Int} (h : RatIs s x y) : 0 < y := by
  obtain ⟨k, _, h⟩ := h
  exact (ratV_lt h).2.2
/-- What is whole where it must be, and small. -/
def Pts (Wh : List Bool) (V : List (Int × Int)) : Prop := V.length = Wh.length ∧ ∀ i (_ : i < V.length), V[i].1.natAbs ≤ 8 ∧ 0 < V[i].2 ∧ V[i].2 ≤ 8 ∧ (Wh.getD i false = true → V[i].2 = 1)
theorem dotN_zero {a n m : Nat → Int} {D : Int} {k : Nat} (h : ∀ i, i < k → a i * n i = a i * (m i * D)) : dotN a n k = dotN a m k * D := by
  induction k with
  | zero => simp [dotN]
  | succ k ih =>
    show dotN a n k + a k * n k = (dotN a m k + a k * m k) * D
    rw [ih (fun i hi => h i (by omega)), h k (by omega), Int.add_mul, Int.mul_assoc (a k)]
theorem dotN_fac {a b m : Nat → Int} {g : Int} {k : Nat} (h : ∀ i, i < k → a i = b i * g) : dotN a m k = dotN b m k * g := by
  induction k with
  | zero => simp [dotN]
  | succ k ih =>
    show dotN a m k + a k * m k = (dotN b m k + b k * m k) * g
    rw [ih (fun i hi => h i (by omega)), h k (by omega), Int.add_mul, Int.mul_right_comm]
theorem gcdK_dvd (C : List Int) : ∀ k i, i < k → gcdK C k ∣ C.getD i 0
  | k + 1, i, h => by
    show gcdI (gcdK C k) (C.getD k 0) ∣ _
    unfold gcdI
    by_cases e : i = k
    · subst e; exact Int.gcd_dvd_right ..
    · exact Int.dvd_trans (Int.gcd_dvd_left ..) (gcdK_dvd C k i (by omega))
theorem IsWD.fac {Wh : List Bool} {C : List Int} {g : Int} (h : IsWD Wh C g) (h0 : g ≠ 0) : (∀ i, i < C.length → g ∣ C.getD i 0) ∧ ∀ i, i < C.length → Wh.getD i true = false → C.getD i 0 = 0 := by
  rcases h with ⟨_, rfl⟩ | ⟨h1, rfl⟩
  · exact absurd rfl h0
  · exact ⟨fun i hi => gcdK_dvd C C.length i hi, h1⟩
theorem div_exact {x g q r : Int} (hg : 0 < g) (h : IsDiv x g q r) (hd : g ∣ x) : x = q * g := by
  obtain ⟨h1, h2, h3⟩ := h
  obtain ⟨c, rfl⟩ := hd
  have h4 : ((g.natAbs : Nat) : Int) = g := by omega
  rw [h4] at h3
  have h5 : r = g * (c - q) := by rw [Int.mul_sub, Int.mul_comm g q]; omega
  have h6 : c - q = 0 := by
    rcases Int.lt_trichotomy (c - q) 0 with h | h | h
    · have := Int.mul_neg_of_pos_of_neg hg h
      omega
    · exact h
    · have := Int.mul_le_mul_of_nonneg_left (show 1 ≤ c - q by omega) (Int.le_of_lt hg)
      omega
  rw [show c = q by omega, Int.mul_comm]
theorem floor_le {x g q r s : Int} (hg : 0 < g) (h : IsDiv x g q r) : s * g ≤ x ↔ s ≤ q := by
  obtain ⟨h1, h2, h3⟩ := h
  have h4 : ((g.natAbs : Nat) : Int) = g := by omega
  rw [h4] at h3
  constructor
  · intro h
    refine Int.lt_add_one_iff.1 ?_
    have h5 : s * g < (q + 1) * g := by rw [Int.add_mul]; omega
    exact (Int.mul_lt_mul_right hg).1 h5
  · intro h
    have := Int.mul_le_mul_of_nonneg_right h (Int.le_of_lt hg)
    omega
/-- The sums of a row's columns, where it is divided. -/
theorem tight_sum {Wh : List Bool} {V : List (Int × Int)} {N : List Int} {D : Int} {C : List Int} (hP : Pts Wh V) (hC : Comm V N D) (hl : C.length = V.length) (hz : ∀ i, i < C.length → Wh.getD i true = false → C.getD i 0 = 0) : dotN (fun i => C.getD i 0) (numsOf N) N.length = dotN (fun i => C.getD i 0) (fun i => (V.getD i (0, 1)).1) N.length * D := by
  have hN := hC.1
  refine dotN_zero fun i hi => ?_
  have hiV : i < V.length := by omega
  have e1 : numsOf N i = N[i] := by unfold numsOf; rw [List.getD_eq_getElem?_getD, List.getElem?_eq_getElem hi]; rfl
  have e2 : V.getD i (0, 1) = V[i] := by rw [List.getD_eq_getElem?_getD, List.getElem?_eq_getElem hiV]; rfl
  rw [e1, e2]
  cases hw : Wh.getD i true with
  | false => rw [hz i (by omega) hw, Int.zero_mul, Int.zero_mul]
  | true =>
    have hiW : i < Wh.length := by rw [← hP.1]; exact hiV
    have hw' : Wh.getD i false = true := by
      rw [List.getD_eq_getElem?_getD, List.getElem?_eq_getElem hiW] at hw ⊢
      exact hw
    have h1 := (hP.2 i hiV).2.2.2 hw'
    have h2 := hC.2.2 i hiV hi
    rw [h1, Int.mul_one] at h2
    rw [h2]
/-- What is met by whole numbers is met when it is tightened, and the other way round. -/
theorem tight_met {Wh : List Bool} {V : List (Int × Int)} {N : List Int} {D : Int} {f n : Nr} (hP : Pts Wh V) (hC : Comm V N D) (hl : f.cs.length = V.length) (h : Tight Wh f n) : metN N D n = metN N D f := by
  obtain ⟨g, hg, h⟩ := h
  rcases h with ⟨_, rfl⟩ | ⟨h0, hst, hlen, hdiv, r, hb⟩
  · rfl
  have hgp := hg.pos h0
  obtain ⟨hd, hz⟩ := hg.fac h0
  have hD := hC.2.1
  have hN := hC.1
  have hfac : ∀ i, i < f.cs.length → f.cs.getD i 0 = n.cs.getD i 0 * g := fun i hi => by
    obtain ⟨r, hr⟩ := hdiv i hi
    exact div_exact hgp hr (hd i hi)
  have hz' : ∀ i, i < n.cs.length → Wh.getD i true = false → n.cs.getD i 0 = 0 := fun i hi hw => by
    have h1 := hz i (by omega) hw
    rw [hfac i (by omega)] at h1
    rcases Int.mul_eq_zero.1 h1 with h2 | h2
    · exact h2
    · exact absurd h2 h0
  have s1 := tight_sum hP hC hl hz
  have s2 := tight_sum hP hC (hlen.trans hl) hz'
  have s3 : dotN (fun i => f.cs.getD i 0) (fun i => (V.getD i (0, 1)).1) N.length = dotN (fun i => n.cs.getD i 0) (fun i => (V.getD i (0, 1)).1) N.length * g := dotN_fac (fun i hi => hfac i (by omega))
  unfold metN
  show metB (dotN (fun i => n.cs.getD i 0) (numsOf N) N.length) _ _ = metB (dotN (fun i => f.cs.getD i 0) (numsOf N) N.length) _ _
  rw [s1, s2, s3]
  obtain ⟨S, hS⟩ : ∃ S, dotN (fun i => n.cs.getD i 0) (fun i => (V.getD i (0, 1)).1) N.length = S := ⟨_, rfl⟩
  rw [hS, hst]
  have hfl := floor_le (s := S) hgp hb
  have q1 : (S * D < n.bd * D) ↔ S < n.bd := Int.mul_lt_mul_right hD
  have q2 : (S * g * D < f.bd * D) ↔ S * g < f.bd := Int.mul_lt_mul_right hD
  have q3 : (S * D = n.bd * D) ↔ S = n.bd := ⟨fun e => Int.eq_of_mul_eq_mul_right (Int.ne_of_gt hD) e, fun e => by rw [e]⟩
  have q4 : (S * g * D = f.bd * D) ↔ S * g = f.bd := ⟨fun e => Int.eq_of_mul_eq_mul_right (Int.ne_of_gt hD) e, fun e => by rw [e]⟩
  unfold metB
  rw [Bool.eq_iff_iff]
  simp only [Bool.or_eq_true, Bool.and_eq_true, decide_eq_true_eq]
  rw [q1, q2, q3, q4]
  clear q1 q2 q3 q4
  obtain ⟨T, hT⟩ : ∃ T, S * g = T := ⟨_, rfl⟩
  rw [hT] at hfl ⊢
  cases hs : f.st with
  | false =>
    rw [hs] at hfl
    simp only [Bool.false_eq_true, if_false, Int.sub_zero] at hfl
    simp only [Bool.not_false, and_true]
    omega
  | true =>
    rw [hs] at hfl
    simp only [if_true] at hfl
    simp only [Bool.not_false, Bool.not_true, and_true, and_false, or_false, Bool.false_eq_true]
    omega
theorem dgs_pow (s : ByteArray) (h : isIntB s = true) (K : Nat) (hK : 1 ≤ K) : K < (dgs s).size ↔ 10 ^ K ≤ (numT s).natAbs := by
  have hc := dig_count s h
  have ok := lim_okT s h
  have tr := trimL_trim (chunks (dgs s).data.toList)
  have hv : (numT s).natAbs = val (lim s) := by unfold numT; rw [sg_abs]
  rw [hv, ← hc]
  unfold digC
  by_cases h0 : (trimL (chunks (dgs s).data.toList)).length = 0
  · rw [if_pos h0]
    have e : lim s = [] := List.eq_nil_of_length_eq_zero h0
    rw [e]
    have := Nat.pow_pos (n := K) (show 0 < 10 by decide)
    have e0 : val [] = 0 := rfl
    rw [e0]
    omega
  · rw [if_neg h0]
    exact digits_len _ ok tr (fun e => h0 (by rw [show trimL (chunks (dgs s).data.toList) = [] from e]; rfl)) K
theorem pow_up (a b : Nat) (h : a ≤ b) : 10 ^ a ≤ 10 ^ b := Nat.pow_le_pow_right (by decide) h
theorem lt_up {x : Nat} (h : x < 1000000000 ^ 6) : x < 10 ^ 2500 := Nat.lt_of_lt_of_le (show x < 10 ^ 54 from h) (pow_up 54 2500 (by decide))
/-- A row whose Bound, or all of whose Coefs, are short. -/
def ShortR (f : Lr) : Prop := f.bd.length ≤ 30 ∨ ∀ s ∈ f.cs, s.length ≤ 30
theorem ok_dec {x : Int} {s : List UInt8} (h : IsText x (strOf s)) (hx : x.natAbs < 1000000000 ^ 6) : textOk s = decide (x.natAbs < 10 ^ 40) ∧ numT (strOf s) = x := by
  have hne := text_has h (lt_up hx)
  obtain ⟨hi, hn⟩ := text_num h hne
  refine ⟨?_, hn⟩
  unfold textOk
  rw [hi, Bool.true_and, decide_eq_decide, ← hn]
  have := dgs_pow (strOf s) hi 40 (by decide)
  generalize (10 : Nat) ^ 40 = P at *
  omega
theorem ok_num {s : List UInt8} (h : textOk s = true) : (numT (strOf s)).natAbs < 10 ^ 40 := by
  unfold textOk at h
  obtain ⟨h1, h2⟩ := Bool.and_eq_true_iff.1 h
  have h2 := of_decide_eq_true h2
  have := dgs_pow (strOf s) h1 40 (by decide)
  generalize (10 : Nat) ^ 40 = P at *
  omega
theorem short_num {s : List UInt8} (h : textOk s = true) (hs : s.length ≤ 30) : (numT (strOf s)).natAbs < 10 ^ 30 := by
  unfold textOk at h
  exact num_small (Bool.and_eq_true_iff.1 h).1 30 (by rw [strOf_size]; exact hs)
theorem dot_le {a m : Nat → Int} {A : Nat} : ∀ {k : Nat}, (∀ i, i < k → (a i).natAbs ≤ A ∧ (m i).natAbs ≤ 8) → (dotN a m k).natAbs ≤ k * (A * 8)
  | 0, _ => by simp [dotN]
  | k + 1, h => by
    have h1 := dot_le (k := k) (fun i hi => h i (by omega))
    have h2 := h k (by omega)
    show (dotN a m k + a k * m k).natAbs ≤ _
    have h3 := Int.natAbs_add_le (dotN a m k) (a k * m k)
    have h4 : (a k * m k).natAbs ≤ A * 8 := by rw [Int.natAbs_mul]; exact Nat.mul_le_mul h2.1 h2.2
    rw [Nat.add_mul, Nat.one_mul]
    omega
theorem Nr.small_cs {Wh : List Bool} {f n : Nr} (h : Tight Wh f n) (i : Nat) (hi : i < f.cs.length) : (n.cs.getD i 0).natAbs ≤ (f.cs.getD i 0).natAbs := by
  obtain ⟨g, hg, h⟩ := h
  rcases h with ⟨_, rfl⟩ | ⟨h0, hst, hlen, hdiv, r, hb⟩
  · exact Nat.le_refl _
  · obtain ⟨r, hr⟩ := hdiv i hi
    rw [div_exact (hg.pos h0) hr ((hg.fac h0).1 i hi), Int.natAbs_mul]
    have := hg.pos h0
    have h1 : (n.cs.getD i 0).natAbs * 1 ≤ (n.cs.getD i 0).natAbs * g.natAbs := Nat.mul_le_mul_left _ (by omega)
    omega
/-- Where a Bound grows too long, no small number meets the row. -/
theorem big_unmet {Wh : List Bool} {V : List (Int × Int)} {N : List Int} {D : Int} {f n : Nr} (hP : Pts Wh V) (hC : Comm V N D) (hl : f.cs.length = V.length) (h20 : V.length ≤ 20) (h : Tight Wh f n) (hn : 10 ^ 40 ≤ n.bd.natAbs) (hb0 : f.bd.natAbs < 10 ^ 40) (hs : f.bd.natAbs < 10 ^ 30 ∨ ∀ i, i < f.cs.length → (f.cs.getD i 0).natAbs < 10 ^ 30) : metN N D f = false := by
  obtain ⟨g, hg, h⟩ := h
  rcases h with ⟨_, rfl⟩ | ⟨h0, hst, hlen, hdiv, r, hb⟩
  · generalize (10 : Nat) ^ 40 = P at *
    omega
  have hgp := hg.pos h0
  obtain ⟨hd, hz⟩ := hg.fac h0
  have s1 := tight_sum hP hC hl hz
  have hD := hC.2.1
  have hN := hC.1
  have hX : (10 : Nat) ^ 40 = 10000000000 * 10 ^ 30 := by decide
  have hX0 : 1 ≤ (10 : Nat) ^ 30 := by decide
  obtain ⟨P, hPe⟩ : ∃ P : Nat, 10 ^ 30 = P := ⟨_, rfl⟩
  rw [hX, hPe] at hn hb0
  rw [hPe] at hs hX0
  clear hX hPe
  obtain ⟨d1, d2, d3⟩ := hb
  have h4 : ((g.natAbs : Nat) : Int) = g := by omega
  rw [h4] at d3
  obtain ⟨c, hc⟩ : ∃ c : Int, f.bd - (if f.st = true then 1 else 0) = c := ⟨_, rfl⟩
  have hc1 : -(10000000000 * (P : Int)) ≤ c ∧ c < 10000000000 * (P : Int) ∧ f.bd - 1 ≤ c ∧ c ≤ f.bd := by
    rw [← hc]
    split <;> omega
  rw [hc] at d1
  have hlow : n.bd ≤ -(10000000000 * (P : Int)) := by
    rcases Int.lt_or_le n.bd 0 with h5 | h5
    · omega
    · have h6 := Int.mul_le_mul_of_nonneg_left (show 1 ≤ g by omega) h5
      omega
  have hg1 : g = 1 := by
    rcases Int.lt_or_le 1 g with h5 | h5
    · have h6 : (10000000000 * (P : Int)) * (g - 1) ≤ (-n.bd) * (g - 1) := Int.mul_le_mul_of_nonneg_right (by omega) (by omega)
      have h7 : (g - 1) * 2 ≤ (g - 1) * (10000000000 * (P : Int)) := Int.mul_le_mul_of_nonneg_left (by omega) (by omega)
      have e1 : (-n.bd) * (g - 1) = n.bd - n.bd * g := by rw [Int.mul_sub, Int.neg_mul]; omega
      rw [e1] at h6
      rw [Int.mul_comm (10000000000 * (P : Int))] at h6
      omega
    · omega
  have hfb : f.bd ≤ -(10000000000 * (P : Int)) + 1 := by
    subst hg1
    omega
  rcases hs with hs | hs
  · omega
  have hbd := dot_le (a := fun i => f.cs.getD i 0) (m := fun i => (V.getD i (0, 1)).1) (A := P) (k := N.length) (fun i hi => by
    have hiV : i < V.length := by omega
    have e2 : V.getD i (0, 1) = V[i] := by rw [List.getD_eq_getElem?_getD, List.getElem?_eq_getElem hiV]; rfl
    refine ⟨Nat.le_of_lt (hs i (by omega)), ?_⟩
    show (V.getD i (0, 1)).1.natAbs ≤ 8
    rw [e2]
    exact (hP.2 i hiV).1)
  have hk : N.length * (P * 8) ≤ 20 * (P * 8) := Nat.mul_le_mul_right _ (by omega)
  unfold metN
  show metB (dotN (fun i => f.cs.getD i 0) (numsOf N) N.length) _ _ = false
  rw [s1]
  obtain ⟨S, hS⟩ : ∃ S, dotN (fun i => f.cs.getD i 0) (fun i => (V.getD i (0, 1)).1) N.length = S := ⟨_, rfl⟩
  rw [hS] at hbd ⊢
  have hSb : f.bd < S := by omega
  have q1 : f.bd * D < S * D := (Int.mul_lt_mul_right hD).2 hSb
  unfold metB
  rw [decide_eq_false (by omega), decide_eq_false (by omega)]
  rfl
theorem said_nr {n : Nr} {f : Lr} (h : SaidN n f) (hs : SmN n) : nrOf f = n := by
  obtain ⟨a1, a2, a3, a4⟩ := h
  obtain ⟨c, s, b⟩ := n
  unfold nrOf
  have e1 : f.cs.map (fun s => numT (strOf s)) = c := getD_ext 0 (by rw [List.length_map]; exact a2) fun i hi => by
    rw [List.length_map] at hi
    have h1 := (ok_dec (a3 i (by rw [← a2]; exact hi)) (hs.1 _ (at_mem c 0 (by rw [← a2]; exact hi)))).2
    rw [List.getD_eq_getElem?_getD, List.getElem?_map, List.getElem?_eq_getElem hi]
    rw [List.getD_eq_getElem?_getD, List.getElem?_eq_getElem hi] at h1
    exact h1
  have e2 := (ok_dec a4 hs.2).2
  have a1 : f.st = s := a1
  have e2 : numT (strOf f.bd) = b := e2
  rw [e1, e2, a1]
/-- Of a good row: it is met just where what is made of it is good, and met. -/
theorem row_same {cols : Int} {Wh : List Bool} {V : List (Int × Int)} {N : List Int} {D : Int} {f f' : Lr} (hP : Pts Wh V) (hC : Comm V N D) (hcl : (Wh.length : Int) = cols) (h20 : Wh.length ≤ 20) (hl : Wh.length = f.cs.length) (o1 : textOk f.bd = true) (o2 : f.cs.all textOk = true) (hT : TightT Wh f f') (hs : ShortR f) : (rowOk cols f' && metN N D (nrOf f')) = metN N D (nrOf f) := by
  obtain ⟨n, hTn, hS⟩ := hT
  have hsm := hTn.small (sm_of o1 o2)
  rw [said_nr hS hsm]
  have hlv : (nrOf f).cs.length = V.length := by rw [nr_len, hP.1, hl]
  have hm := tight_met hP hC hlv hTn
  rw [hm]
  have hlen' : f'.cs.length = f.cs.length := TightT.len ⟨n, hTn, hS⟩
  have hnl : n.cs.length = f.cs.length := hS.2.1.symm.trans hlen'
  have hcs : f'.cs.all textOk = true := by
    rw [List.all_eq_true]
    intro s hsm'
    obtain ⟨i, hi, rfl⟩ := List.getElem_of_mem hsm'
    have h1 := hS.2.2.1 i (by rw [← hS.2.1]; exact hi)
    rw [List.getD_eq_getElem?_getD (l := f'.cs), List.getElem?_eq_getElem hi] at h1
    have hif : i < f.cs.length := by omega
    have h2 := (ok_dec h1 (hsm.1 _ (at_mem n.cs 0 (by omega)))).1
    show textOk f'.cs[i] = true
    have h3 : (n.cs.getD i 0).natAbs < 10 ^ 40 := by
      refine Nat.lt_of_le_of_lt (Nr.small_cs hTn i (by rw [nr_len]; exact hif)) ?_
      rw [nr_at f hif]
      exact ok_num (List.all_eq_true.1 o2 _ (at_mem f.cs [] hif))
    rw [decide_eq_true h3] at h2
    exact h2
  have hbd := (ok_dec hS.2.2.2 hsm.2).1
  unfold rowOk
  rw [hcs, Bool.and_true, decide_eq_true (by omega), Bool.true_and, hbd]
  by_cases hb : n.bd.natAbs < 10 ^ 40
  · rw [decide_eq_true hb, Bool.true_and]
  · rw [decide_eq_false hb, Bool.false_and]
    refine (big_unmet hP hC hlv (by rw [hP.1]; exact h20) hTn (Nat.le_of_not_lt hb) (ok_num o1) ?_).symm
    rcases hs with hs | hs
    · exact .inl (short_num o1 hs)
    · refine .inr fun i hi => ?_
      rw [nr_len] at hi
      rw [nr_at f hi]
      exact short_num (List.all_eq_true.1 o2 _ (at_mem f.cs [] hi)) (hs _ (at_mem f.cs [] hi))
/-- What Meets answers, of small numbers. -/
def meetB (cols : Int) (F : List Lr) (k : Nat) (N : List Int) (D : Int) : Bool := goodR cols F && decide ((k : Int) = cols) && ansN (F.map nrOf) N D
theorem all_idx {α : Type} {p : α → Bool} {l : List α} : l.all p = true ↔ ∀ i (h : i < l.length), p l[i] = true := by
  rw [List.all_eq_true]
  exact ⟨fun h i hi => h _ (List.getElem_mem hi), fun h x hx => by obtain ⟨i, hi, rfl⟩ := List.getElem_of_mem hx; exact h i hi⟩
theorem meet_same {cols : Int} {Wh : List Bool} {V : List (Int × Int)} {N : List Int} {D : Int} {F F' : List Lr} (hP : Pts Wh V) (hC : Comm V N D) (hf : flagOk cols Wh F = true) (hl : F'.length = F.length) (hT : ∀ i, i < F.length → TightT Wh (F.getD i ⟨[], false, []⟩) (F'.getD i ⟨[], false, []⟩)) (hs : ∀ f ∈ F, ShortR f) : meetB cols F' V.length N D = meetB cols F V.length N D := by
  have hfs := flag_small hf
  have hfr := fun f (h : f ∈ F) => flag_row hf h
  unfold flagOk at hf
  obtain ⟨hg, hw⟩ := Bool.and_eq_true_iff.1 hf
  have hw := of_decide_eq_true hw
  have hrow : ∀ i (h : i < F.length) (h' : i < F'.length), (rowOk cols F'[i] && metN N D (nrOf F'[i])) = metN N D (nrOf F[i]) := fun i h h' => by
    have h1 := hT i h
    rw [List.getD_eq_getElem?_getD, List.getD_eq_getElem?_getD, List.getElem?_eq_getElem h, List.getElem?_eq_getElem h'] at h1
    obtain ⟨k1, k2, k3⟩ := hfr _ (List.getElem_mem h)
    exact row_same hP hC hw hfs.2 k1 k2 k3 h1 (hs _ (List.getElem_mem h))
  have hd : decide ((V.length : Int) = cols) = true := decide_eq_true (by rw [hP.1]; exact hw)
  unfold meetB
  rw [hd, hg, Bool.and_true, Bool.and_true, Bool.true_and]
  unfold goodR at hg ⊢
  have hg1 := of_decide_eq_true (Bool.and_eq_true_iff.1 hg).1
  rw [hl, decide_eq_true hg1, Bool.true_and, Bool.eq_iff_iff, Bool.and_eq_true_iff, all_idx]
  unfold ansN
  rw [all_idx, all_idx]
  simp only [List.length_map, List.getElem_map]
  constructor
  · rintro ⟨h1, h2⟩ i hi
    rw [← hrow i hi (by omega), h1 i (by omega), h2 i (by omega)]
    rfl
  · intro h
    refine ⟨fun i hi => ?_, fun i hi => ?_⟩
    · have := h i (by omega)
      rw [← hrow i (by omega) hi] at this
      exact (Bool.and_eq_true_iff.1 this).1
    · have := h i (by omega)
      rw [← hrow i (by omega) hi] at this
      exact (Bool.and_eq_true_iff.1 this).2
end Go.Proofs.YtknfmkeipeikkaaGreatDoor.L
