import Derived.Test.YtpjnglcojamfmaaDoorText
import Derived.Test.YtpjnglcojamfmaaDoorM2
import Derived.Test.YtpjnglcojamfmaaDoorReadImpl
namespace Go.Proofs.YtpjnglcojamfmaaDoor
open Go.ChangeShapes Go.WideShapes Go.ChangeAt Go.RowKit
theorem val_trimL (l : List Nat) : val (trimL l) = val l := by
  induction hn : l.length generalizing l with
  | zero => rw [List.eq_nil_of_length_eq_zero hn]; rfl
  | succ n ih =>
    have hne : l ≠ [] := by intro h; rw [h] at hn; simp at hn
    rw [← List.dropLast_concat_getLast hne]
    by_cases h0 : l.getLast hne = 0
    · rw [h0, trimL_snoc_zero, val_snoc, ih _ (by simp [hn])]; omega
    · rw [trimL_snoc_pos _ _ h0]
theorem isTrim_tail (x : Nat) (l : List Nat) (h : isTrim (x :: l)) : isTrim l := by
  intro hne
  have := h (by simp)
  rwa [List.getLast_cons hne] at this
theorem val_inj (a b : List Nat) (ha : okL a) (hb : okL b) (ta : isTrim a) (tb : isTrim b) (h : val a = val b) : a = b := by
  induction a generalizing b with
  | nil =>
    by_cases hne : b = []
    · rw [hne]
    · have := val_pos b tb hne
      rw [← h] at this
      simp [val] at this
  | cons x a ih =>
    cases b with
    | nil =>
      have := val_pos (x :: a) ta (by simp)
      rw [h] at this
      simp [val] at this
    | cons y b =>
      have h1 := ha x (by simp)
      have h2 := hb y (by simp)
      simp only [val] at h
      have e1 : x = y := by omega
      have e2 : val a = val b := by omega
      rw [e1, ih b (fun z hz => ha z (by simp [hz])) (fun z hz => hb z (by simp [hz])) (isTrim_tail x a ta) (isTrim_tail y b tb) e2]
/-- The limbs of a word. -/
def wl (n k : Nat) : List Nat := (List.range k).map (fun i => n / 1000000000 ^ i % 1000000000)
theorem wl_succ (n k : Nat) : wl n (k + 1) = wl n k ++ [n / 1000000000 ^ k % 1000000000] := by simp [wl, List.range_succ]
theorem wl_length (n k : Nat) : (wl n k).length = k := by simp [wl]
theorem wl_ok (n k : Nat) : okL (wl n k) := by
  intro x hx
  unfold wl at hx
  rw [List.mem_map] at hx
  obtain ⟨i, _, rfl⟩ := hx
  exact Nat.mod_lt _ (by decide)
theorem wl_val (n k : Nat) : val (wl n k) + 1000000000 ^ k * (n / 1000000000 ^ k) = n := by
  induction k with
  | zero => simp [wl, val]
  | succ k ih =>
    rw [wl_succ, val_snoc, wl_length, Nat.pow_succ, ← Nat.div_div_eq_div_mul]
    have h1 := Nat.div_add_mod (n / 1000000000 ^ k) 1000000000
    have h2 : 1000000000 ^ k * (n / 1000000000 ^ k) = 1000000000 ^ k * (1000000000 * (n / 1000000000 ^ k / 1000000000) + n / 1000000000 ^ k % 1000000000) := by rw [h1]
    rw [Nat.mul_add, ← Nat.mul_assoc] at h2
    omega
set_option maxRecDepth 100000 in
set_option maxHeartbeats 1000000 in
theorem limbsOf_any (n : Nat) (w : World) (hn : n < 18446744073709551616) :
    Calls Tryd.prog 64 #[.int .u64 (n : Nat)] w fun e w' => ∃ v k, e = .returned v ∧ k ≤ 3 ∧ IsL w.heap.size w' v (wl n k) ∧ val (wl n k) = n ∧ Below w.heap.size w w' := by
  obtain ⟨i0, hinf, hz0, hz1, hz2⟩ := info_parts Tryd.info_u32
  have HN : Hid (n < 18446744073709551616) := hn
  clear hn
  go_enter Tryd.func64, Tryd.ntmps64
  go_wp2
  go_loopw [0, 3] (fun q v wr => ∃ k : Nat, k ≤ 3 ∧ q = .int .u64 (n / 1000000000 ^ k : Nat) ∧
      wr.ownsRow w.heap.size 51 1 v k ((wl n k).map (fun x => Value.int .u32 (x : Nat))) ∧ Below w.heap.size w wr) (fun q _ _ => (intOf q).toNat)
  case atStart => exact ⟨0, by omega, val_int (by simp), World.ownsRow_nil _ _ _ _, Below.refl _ _⟩
  case round =>
    obtain ⟨k, hk, rfl, hown, hB⟩ := hrel
    obtain ⟨q, hq⟩ : ∃ q, n / 1000000000 ^ k = q := ⟨_, rfl⟩
    have HQ : Hid (n / 1000000000 ^ k = q) := hq
    rw [hq]
    clear hq
    by_cases h0 : q = 0
    · have HV : Hid (val (wl n k) = n) := by
        show val (wl n k) = n
        have := wl_val n k
        rw [HQ.out, h0] at this
        simpa using this
      have hL : IsL w.heap.size wr u3 (wl n k) := isL_of_owns (e := 51) (by rw [wl_length]; exact hown) (wl_ok n k)
      have HL : Hid (IsL w.heap.size wr u3 (wl n k)) := hL
      have HB : Hid (Below w.heap.size w wr) := hB
      clear hL hown hB
      subst h0
      go_wp2
      go_ret
      exact ⟨_, k, rfl, hk, HL.out, HV.out, HB.out⟩
    · have hk3 : k < 3 := by
        apply Classical.byContradiction
        intro hc
        obtain rfl : k = 3 := by omega
        have := HQ.out
        have h3 : (1000000000 : Nat) ^ 3 = 1000000000000000000000000000 := by decide
        rw [h3] at this
        have := HN.out
        omega
      obtain ⟨x, hx⟩ : ∃ x : Int, (q : Int) = x := ⟨_, rfl⟩
      have HX : Hid ((q : Int) = x) := hx
      rw [hx]
      have x0 : 0 < x := by omega
      have x1 : x < 18446744073709551616 := by
        have h1 := Nat.div_le_self n (1000000000 ^ k)
        rw [HQ.out] at h1
        have := HN.out
        omega
      have HM : Hid (x % 1000000000 = (n / 1000000000 ^ k % 1000000000 : Nat)) := by show x % 1000000000 = (n / 1000000000 ^ k % 1000000000 : Nat); rw [HQ.out, ← HX.out]; rfl
      have HD : Hid (x / 1000000000 = (n / 1000000000 ^ (k + 1) : Nat)) := by
        show x / 1000000000 = (n / 1000000000 ^ (k + 1) : Nat)
        rw [Nat.pow_succ, ← Nat.div_div_eq_div_mul, HQ.out, ← HX.out]; rfl
      clear hx h0
      go_wp2_with (at_builtin; refine wpList_append_own _ rfl _ _ 26 rfl w.heap.size 51 i0 (.int .u32 0) 1 4 Tryd.underlying26 hinf hz0 hz1 hz2 rfl (by decide) _ _ _ rfl (hown.alloc _) ⟨wr.heap.size, 0, none⟩ 1 1 [_] rfl rfl (cell_one_new _ _ _) ?c2 ?c3 ?c4 ?c5 ?_)
      case c2 => first | rfl | (intro u hu; simp at hu; subst hu; rfl)
      case c3 => unfold maxLen; omega
      case c4 => omega
      case c5 => have := hB.size; simp; omega
      intro v' w1 hown' hgrow' _
      have hB' : Below w.heap.size w w1 := (hB.alloc hB.size _).grown hgrow' (by have := hB.size; simp; omega) (fun q hq => (hown.lt q hq).1)
      have HO : Hid (w1.ownsRow w.heap.size 51 1 v' (k + 1) ((wl n (k + 1)).map (fun x => Value.int .u32 (x : Nat)))) := by
        show w1.ownsRow w.heap.size 51 1 v' (k + 1) ((wl n (k + 1)).map (fun x => Value.int .u32 (x : Nat)))
        rw [wl_succ, List.map_append, List.map_cons, List.map_nil, ← HM.out]
        exact hown'
      clear hgrow' hown hB hown'
      go_wp2
      go_roundw
      case rel => exact ⟨k + 1, by omega, val_int HD.out, HO.out, hB'⟩
      case measure => simp [intOf]; omega
def textT (neg : Bool) (l : List Nat) : ByteArray := if l.length = 0 then strB [48] else textS neg l
theorem text_any (B : Nat) (neg : Bool) (v : Value) (l : List Nat) (w : World) (hI : IsL B w v l) (hlen : l.length ≤ 600) (hLT : LT w) :
    Calls Tryd.prog 46 #[.agg #[.bool neg, v]] w fun e w' => e = .returned (.string (textT neg l)) ∧ Below w.heap.size w w' := by
  by_cases h : l.length = 0
  · obtain ⟨a, cap, rfl, _⟩ := hI
    rw [h]
    refine (text_zero neg a cap w).mono ?_
    rintro e w' ⟨rfl, hb⟩
    exact ⟨by unfold textT; rw [if_pos h]; rfl, hb⟩
  · refine (text_pos B neg v l w hI (by omega) hlen hLT).mono ?_
    rintro e w' ⟨rfl, hb⟩
    exact ⟨by unfold textT; rw [if_neg h], hb⟩
theorem LT.below {w w' : World} (h : LT w) (hb : Below w.heap.size w w') : LT w' := fun j hj => (hb.cell (p := ⟨3, j, none⟩) (block_lt h)).trans (h j hj)
end Go.Proofs.YtpjnglcojamfmaaDoor
