import Derived.Test.YtfhgfclfhghlcaaDoorReads
import Derived.Maps.AppendAt
namespace Go.Proofs.YtfhgfclfhghlcaaDoor
open Go.ChangeShapes Go.WideShapes Go.ChangeAt Go.RowKit
/-- A whole number as the specification holds it: its sign and its limbs. -/
def sg (neg : Bool) (n : Nat) : Int := if neg then -(n : Int) else n
def IsZ (B : Nat) (w : World) (z : Value) (neg : Bool) (t : List Nat) : Prop :=
  okL t ∧ isTrim t ∧ ((2 < t.length ∧ ∃ v, z = .agg #[.int .i64 0, .bool neg, v] ∧ IsL B w v t) ∨
  (t.length ≤ 2 ∧ z = .agg #[.int .i64 (sg neg (val t)), .bool false, .slice none 0 0]))
theorem IsZ.below {B : Nat} {w w' : World} {z : Value} {neg : Bool} {t : List Nat} (h : IsZ B w z neg t) (hb : Below w.heap.size w w') : IsZ B w' z neg t := by
  obtain ⟨h1, h2, h3⟩ := h
  refine ⟨h1, h2, ?_⟩
  rcases h3 with ⟨h3, v, rfl, hv⟩ | h3
  · exact .inl ⟨h3, v, rfl, hv.below hb⟩
  · exact .inr h3
/-- The value of the limbs from i on, as the loop reckons it. -/
def vfrom (l : List Nat) (i : Nat) : Nat := val (l.drop i)
theorem vfrom_step (l : List Nat) (i : Nat) (h : i < l.length) : vfrom l i = vfrom l (i + 1) * 1000000000 + l.getD i 0 := by
  unfold vfrom
  rw [List.drop_eq_getElem_cons h]
  simp only [val, List.getD_eq_getElem?_getD, List.getElem?_eq_getElem h, Option.getD_some]
  omega
theorem vfrom_end (l : List Nat) : vfrom l l.length = 0 := by unfold vfrom; rw [List.drop_length]; rfl
theorem vfrom_lt (l : List Nat) (hok : okL l) (i : Nat) (h : l.length ≤ i + 2) : vfrom l i < 1000000000000000000 := by
  unfold vfrom
  have hok' : okL (l.drop i) := fun x hx => hok x (List.mem_of_mem_drop hx)
  have hlen : (l.drop i).length ≤ 2 := by rw [List.length_drop]; omega
  match hl : l.drop i, hlen with
  | [], _ => simp [val]
  | [a], _ => have := hok' a (by rw [hl]; simp); simp [val]; omega
  | [a, b], _ => have := hok' a (by rw [hl]; simp); have := hok' b (by rw [hl]; simp); simp [val]; omega
def mkZ (neg : Bool) (a : Option Addr) (cap : Nat) (t : List Nat) : Value :=
  if 2 < t.length then .agg #[.int .i64 0, .bool neg, .slice a t.length cap] else .agg #[.int .i64 (sg neg (val t)), .bool false, .slice none 0 0]
theorem mkZ_big {neg : Bool} {a : Option Addr} {cap : Nat} {t : List Nat} (h : 2 < t.length) : mkZ neg a cap t = .agg #[.int .i64 0, .bool neg, .slice a t.length cap] := if_pos h
theorem mkZ_small {neg : Bool} {a : Option Addr} {cap : Nat} {t : List Nat} (h : ¬ 2 < t.length) : mkZ neg a cap t = .agg #[.int .i64 (sg neg (val t)), .bool false, .slice none 0 0] := if_neg h
set_option maxHeartbeats 1000000 in
theorem l1Make_row (neg : Bool) (b off cap : Nat) (l : List Nat) (w : World) (hl : l.length ≤ cap) (hcap : cap ≤ maxLen) (hok : okL l) (hb : b < w.heap.size)
    (hc : ∀ i, i < l.length → w.cell? ⟨b, off + i, none⟩ = some (.int .u32 (l.getD i 0 : Nat))) :
    Calls Tryd.prog 51 #[.bool neg, .slice (some ⟨b, off, none⟩) l.length cap] w fun e w' =>
      e = .returned (mkZ neg (some ⟨b, off, none⟩) cap (trimL l)) ∧ Below w.heap.size w w' := by
  unfold maxLen at hcap
  have HC : Hid (∀ o, ∀ i, i < l.length → (w.alloc o).cell? ⟨b, off + i, none⟩ = some (.int .u32 (l.getD i 0 : Nat))) := fun o i hi => by
    rw [World.cell?_alloc_past _ _ _ hb]; exact hc i hi
  clear hc
  go_enter Tryd.func51, Tryd.ntmps51
  go_wp2
  go_loop [5] (fun n => ∃ k : Nat, k ≤ l.length ∧ n = .int .i64 k ∧ trimL (l.take k) = trimL l) (fun n => (intOf n).toNat)
  case atStart => exact ⟨l.length, Nat.le_refl _, rfl, by rw [List.take_length]⟩
  case round =>
    obtain ⟨k, hk, rfl, hp⟩ := hrel
    have HP : Hid (trimL (l.take k) = trimL l) := hp
    clear hp
    cases k with
    | zero =>
      have HE : Hid (trimL l = []) := by rw [← HP.out]; rfl
      cases neg
      all_goals
        go_wp2
        refine wp_loop_rounds 1 ?_
        rw [rounds_succ]
        go_wp2
        refine bodyPost_ret (v := .agg #[.int .i64 0, .bool false, .slice none 0 0]) ?_ rfl ⟨?_, below_alloc _ _⟩
        · simp [results, Tryd.results51, go_sem]
        · rw [HE.out, mkZ_small (by simp)]; simp [sg, val]
    | succ m =>
      obtain ⟨x, hx⟩ : ∃ x, l.getD m 0 = x := ⟨_, rfl⟩
      have hcell := fun o => HC.out o m (by omega)
      simp only [hx] at hcell
      have HX : Hid (l.getD m 0 = x) := hx
      clear hx
      by_cases h0 : x = 0
      · have hz : ((x : Int) == 0) = true := by rw [beq_iff_eq]; omega
        have HE : Hid (trimL (l.take m) = trimL l) := by rw [← trimL_take_zero l m (by omega) (by rw [HX.out, h0])]; exact HP.out
        clear h0
        go_wp2
        go_round
        case rel => exact ⟨m, by omega, val_int (by omega), HE.out⟩
        case measure => simp [intOf]
      · have hz : ((x : Int) == 0) = false := by rw [beq_eq_false_iff_ne]; omega
        have HT : Hid (trimL l = l.take (m + 1)) := HP.out.symm.trans (trimL_take_pos l m (by omega) (by rw [HX.out]; exact h0))
        have HN : Hid ((trimL l).length = m + 1) := by rw [HT.out, List.length_take]; exact Nat.min_eq_left (by omega)
        clear h0
        by_cases h2 : 2 < m + 1
        · go_wp2
          refine bodyPost_ret (v := .agg #[.int .i64 0, .bool neg, .slice (some ⟨b, off, none⟩) (m + 1) cap]) ?_ rfl ⟨?_, below_alloc _ _⟩
          · simp [results, Tryd.results51, go_sem]
          · rw [mkZ_big (by rw [HN.out]; exact h2), HN.out]
        · have hok2 : okL (trimL l) := trimL_ok l hok
          have HG : Hid (∀ i, i < m + 1 → l.getD i 0 = (trimL l).getD i 0) := fun i hi => (getD_trimL l i (by rw [HN.out]; exact hi)).symm
          obtain ⟨t, ht⟩ : ∃ t, trimL l = t := ⟨_, rfl⟩
          rw [ht] at hok2
          have HTt : Hid (trimL l = t) := ht
          have HGt : Hid (∀ i, i < m + 1 → l.getD i 0 = t.getD i 0) := by rw [ht] at HG; exact HG
          have HNt : Hid (t.length = m + 1) := by rw [← ht]; exact HN.out
          clear HG ht hok
          cases neg
          all_goals
            go_wp2
            go_loop [6, 7] (fun v i => ∃ j : Nat, j ≤ m + 1 ∧ i = .int .i64 (j - 1) ∧ v = .int .i64 (vfrom t j : Nat)) (fun _ i => (intOf i + 1).toNat)
            case atStart => exact ⟨m + 1, Nat.le_refl _, val_int (by omega), by rw [← HNt.out, vfrom_end]; rfl⟩
            case round =>
              obtain ⟨j, hj, rfl, rfl⟩ := hrel
              cases j with
              | zero =>
                have hv := vfrom_lt t hok2 0 (by rw [HNt.out]; omega)
                have HV : Hid (vfrom t 0 = val t) := rfl
                go_wp2
                refine bodyPost_ret ?_ rfl ⟨rfl, below_alloc _ _⟩
                rw [HTt.out, mkZ_small (by rw [HNt.out]; exact h2), ← HV.out]
                simp [results, Tryd.results51, go_sem, sg]
              | succ i =>
                have hv := vfrom_lt t hok2 i (by rw [HNt.out]; omega)
                have HS : Hid (vfrom t i = vfrom t (i + 1) * 1000000000 + t.getD i 0) := vfrom_step t i (by rw [HNt.out]; omega)
                obtain ⟨y, hy⟩ : ∃ y, t.getD i 0 = y := ⟨_, rfl⟩
                obtain ⟨q, hq⟩ : ∃ q, vfrom t (i + 1) = q := ⟨_, rfl⟩
                have hcell := fun o => HC.out o i (by omega)
                simp only [HGt.out i (by omega), hy] at hcell
                have hyb : y < 1000000000 := by
                  rw [← hy, List.getD_eq_getElem?_getD, List.getElem?_eq_getElem (by rw [HNt.out]; omega)]
                  exact hok2 _ (List.getElem_mem _)
                rw [hy, hq] at HS
                rw [hq]
                rw [HS.out] at hv
                clear hy hq
                go_wp2
                go_round
                case rel => exact ⟨i, by omega, val_int (by omega), by rw [HS.out]; exact val_int (by omega)⟩
                case measure => simp [intOf]
set_option maxHeartbeats 400000 in
theorem l1Make_none (neg : Bool) (a : Option Addr) (cap : Nat) (w : World) :
    Calls Tryd.prog 51 #[.bool neg, .slice a 0 cap] w fun e w' => e = .returned (.agg #[.int .i64 0, .bool false, .slice none 0 0]) ∧ Below w.heap.size w w' := by
  cases neg
  all_goals
    go_enter Tryd.func51, Tryd.ntmps51
    go_wp2
    refine wp_loop_rounds 1 ?_
    rw [rounds_succ]
    go_wp2
    refine wp_loop_rounds 1 ?_
    rw [rounds_succ]
    go_wp2
    refine bodyPost_ret (v := .agg #[.int .i64 0, .bool false, .slice none 0 0]) ?_ rfl ⟨rfl, below_alloc _ _⟩
    simp [results, Tryd.results51, go_sem]
theorem l1Make_any (B : Nat) (neg : Bool) (v : Value) (l : List Nat) (w : World) (h : IsL B w v l) :
    Calls Tryd.prog 51 #[.bool neg, v] w fun e w' => ∃ z, e = .returned z ∧ (∀ B W, IsL B W v l → IsZ B W z neg (trimL l)) ∧ Below w.heap.size w w' := by
  obtain ⟨a, cap, rfl, hl, hcap, hok, hr⟩ := h
  rcases hr with rfl | ⟨b, off, rfl, _, hb, hc⟩
  · refine (l1Make_none neg a cap w).mono ?_
    rintro e w' ⟨rfl, hb⟩
    refine ⟨_, rfl, fun B W h => ⟨hok, trimL_trim _, .inr ⟨by simp [trimL_nil], ?_⟩⟩, hb⟩
    simp [trimL_nil, sg, val]
  · refine (l1Make_row neg b off cap l w hl hcap hok hb hc).mono ?_
    rintro e w' ⟨rfl, hb⟩
    refine ⟨_, rfl, fun B W h => ⟨trimL_ok l hok, trimL_trim _, ?_⟩, hb⟩
    by_cases h2 : 2 < (trimL l).length
    · exact .inl ⟨h2, _, mkZ_big h2, IsL.cut B W h⟩
    · exact .inr ⟨by omega, mkZ_small h2⟩
/-- What the two short lists of limbs are. -/
theorem short_cases (t : List Nat) (h : t.length ≤ 2) (hok : okL t) (htr : isTrim t) :
    t = [] ∨ (∃ a, t = [a] ∧ 0 < a ∧ a < 1000000000) ∨ ∃ a b, t = [a, b] ∧ a < 1000000000 ∧ 0 < b ∧ b < 1000000000 := by
  match t, h with
  | [], _ => exact .inl rfl
  | [a], _ =>
    have h1 := hok a (by simp)
    have h2 := htr (by simp)
    simp at h2
    exact .inr (.inl ⟨a, rfl, by omega, h1⟩)
  | [a, b], _ =>
    have h1 := hok a (by simp)
    have h3 := hok b (by simp)
    have h2 := htr (by simp)
    simp at h2
    exact .inr (.inr ⟨a, b, rfl, h1, by omega, h3⟩)
theorem negOf_small (neg : Bool) (t : List Nat) (h2 : t.length ≤ 2) (hok : okL t) (htr : isTrim t) : negOf neg t = decide (sg neg (val t) < 0) := by
  rcases short_cases t h2 hok htr with rfl | ⟨a, rfl, h3, h4⟩ | ⟨a, b, rfl, h3, h4, h5⟩
  · cases neg <;> simp [negOf, sg, val]
  · cases neg <;> simp [negOf, sg, val] <;> omega
  · cases neg <;> simp [negOf, sg, val] <;> omega
set_option maxHeartbeats 400000 in
theorem l1Neg_any (B : Nat) (z : Value) (neg : Bool) (t : List Nat) (w : World) (h : IsZ B w z neg t) :
    Calls Tryd.prog 50 #[z] w fun e w' => e = .returned (.bool (negOf neg t)) ∧ Below w.heap.size w w' := by
  obtain ⟨hok, htr, h⟩ := h
  rcases h with ⟨h2, v, rfl, a, cap, rfl, hl, hcap, _, _⟩ | ⟨h2, rfl⟩
  · have hp : 0 < t.length := by omega
    unfold maxLen at hcap
    have HF : Hid (negOf neg t = neg) := by show negOf neg t = neg; simp [negOf, hp]
    go_enter Tryd.func50, Tryd.ntmps50
    go_wp2
    go_ret
    exact ⟨by rw [HF.out]; rfl, below_alloc _ _⟩
  · obtain ⟨n, hn⟩ : ∃ n, sg neg (val t) = n := ⟨_, rfl⟩
    have HF : Hid (negOf neg t = decide (n < 0)) := by
      rw [← hn]; exact negOf_small neg t h2 hok htr
    rw [hn]
    clear hn
    go_enter Tryd.func50, Tryd.ntmps50
    go_wp2
    go_ret
    exact ⟨by rw [HF.out]; rfl, below_alloc _ _⟩
theorem isL_one {w : World} {x : Int} (B e a g : Nat) (ha : a < 1000000000) (hx : x = a) (hg : w.heap.size = g) (hB : B ≤ g) : IsL B (w.alloc (.cells #[.int .u32 x] e)) (.slice (some ⟨g, 0, none⟩) 1 1) [a] := by
  subst hx; subst hg
  exact ⟨_, 1, rfl, by simp, by unfold maxLen; omega, fun x hx => by simp at hx; omega, .inr ⟨w.heap.size, 0, rfl, hB, by simp, fun i hi => by
    match i, hi with
    | 0, _ => rw [World.cell?_alloc_at _ _ _ _ rfl]; rfl⟩⟩
theorem isL_two {w : World} {x y : Int} (B e a b g : Nat) (ha : a < 1000000000) (hb : b < 1000000000) (hx : x = a) (hy : y = b) (hg : w.heap.size = g) (hB : B ≤ g) : IsL B (w.alloc (.cells #[.int .u32 x, .int .u32 y] e)) (.slice (some ⟨g, 0, none⟩) 2 2) [a, b] := by
  subst hx; subst hy; subst hg
  exact ⟨_, 2, rfl, by simp, by unfold maxLen; omega, fun x hx => by simp at hx; omega, .inr ⟨w.heap.size, 0, rfl, hB, by simp, fun i hi => by
    match i, hi with
    | 0, _ => rw [World.cell?_alloc_at _ _ _ _ rfl]; rfl
    | 1, _ => rw [World.cell?_alloc_at _ _ _ _ rfl]; rfl⟩⟩
set_option maxRecDepth 100000 in
set_option maxHeartbeats 400000 in
theorem l1Limbs_any (B : Nat) (z : Value) (neg : Bool) (t : List Nat) (w : World) (h : IsZ B w z neg t) (hB : B ≤ w.heap.size) :
    Calls Tryd.prog 49 #[z] w fun e w' => ∃ v, e = .returned v ∧ IsL B w' v t ∧ Below w.heap.size w w' := by
  obtain ⟨hok, htr, h⟩ := h
  rcases h with ⟨h2, v, rfl, hv⟩ | ⟨h2, rfl⟩
  · have HV : Hid (IsL B w v t) := hv
    obtain ⟨a, cap, rfl, hl, hcap, _, _⟩ := hv
    have hp : 0 < t.length := by omega
    unfold maxLen at hcap
    go_enter Tryd.func49, Tryd.ntmps49
    go_wp2
    go_ret
    exact ⟨_, rfl, HV.out.below (below_alloc _ _), below_alloc _ _⟩
  · rcases short_cases t h2 hok htr with rfl | ⟨a, rfl, h3, h4⟩ | ⟨a, b, rfl, h3, h4, h5⟩
    · cases neg
      all_goals
        simp only [sg, val]
        go_enter Tryd.func49, Tryd.ntmps49
        go_wp2
        go_ret
        exact ⟨_, rfl, ⟨none, 0, rfl, by simp, by unfold maxLen; omega, hok, .inl rfl⟩, below_alloc _ _⟩
    · obtain ⟨x, hx⟩ : ∃ x : Int, (a : Int) = x := ⟨_, rfl⟩
      have x1 : 0 < x := by omega
      have x2 : x < 1000000000 := by omega
      have ez : (x == 0) = false := by rw [beq_eq_false_iff_ne]; omega
      have ev : (val [a] : Int) = x := by simp [val, hx]
      have HX : Hid ((a : Int) = x) := hx
      unfold sg
      rw [ev]
      clear hx ev
      cases neg
      all_goals
        simp only [if_true, if_false, Bool.false_eq_true]
        go_enter Tryd.func49, Tryd.ntmps49
        go_wp2
        go_ret
        exact ⟨_, rfl, isL_one B _ a _ h4 HX.out.symm (by simp) (by omega), (below_alloc _ _).alloc (by simp) _⟩
    · obtain ⟨x, hx⟩ : ∃ x : Int, (a : Int) + 1000000000 * b = x := ⟨_, rfl⟩
      have ev : (val [a, b] : Int) = x := by simp [val, hx]
      have x1 : 1000000000 ≤ x := by omega
      have x2 : x < 1000000000000000000 := by omega
      have HA : Hid (x % 1000000000 = a) := by show x % 1000000000 = a; omega
      have HBb : Hid (x / 1000000000 = b) := by show x / 1000000000 = b; omega
      have ez : (x == 0) = false := by rw [beq_eq_false_iff_ne]; omega
      unfold sg
      rw [ev]
      clear hx ev
      cases neg
      all_goals
        simp only [if_true, if_false, Bool.false_eq_true]
        go_enter Tryd.func49, Tryd.ntmps49
        go_wp2
        go_ret
        exact ⟨_, rfl, isL_two B _ a b _ h3 h5 HA.out HBb.out (by simp) (by omega), (below_alloc _ _).alloc (by simp) _⟩
end Go.Proofs.YtfhgfclfhghlcaaDoor
