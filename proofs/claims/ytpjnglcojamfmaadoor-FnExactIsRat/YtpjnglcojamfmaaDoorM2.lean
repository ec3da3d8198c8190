import Derived.Test.YtpjnglcojamfmaaDoorM1
import Derived.Deep.QuietTactic
import Derived.BigQuiet
import Derived.WalkSmall
import Derived.Maps.AppendAt
import Derived.OneCell
namespace Go.Proofs.YtpjnglcojamfmaaDoor
open Go.ChangeShapes Go.WideShapes Go.ChangeAt Go.RowKit
def cmpTop (a b : List Nat) : Nat → Int
  | 0 => 0
  | k + 1 => if a.getD k 0 < b.getD k 0 then -1 else if b.getD k 0 < a.getD k 0 then 1 else cmpTop a b k
def cmpL (a b : List Nat) : Int := if a.length < b.length then -1 else if b.length < a.length then 1 else cmpTop a b a.length
theorem IsL.cells {B : Nat} {w : World} {a : Option Addr} {cap n : Nat} {l : List Nat} (h : IsL B w (.slice a n cap) l) : n = l.length ∧ l.length ≤ cap ∧ cap ≤ maxLen ∧ okL l ∧
    ∀ i, i < l.length → ∃ b off, a = some ⟨b, off, none⟩ ∧ b < w.heap.size ∧ w.cell? ⟨b, off + i, none⟩ = some (.int .u32 (l.getD i 0 : Nat)) := by
  obtain ⟨a', cap', he, hl, hcap, hok, hr⟩ := h
  simp only [Value.slice.injEq] at he
  obtain ⟨rfl, rfl, rfl⟩ := he
  refine ⟨rfl, hl, hcap, hok, fun i hi => ?_⟩
  rcases hr with rfl | ⟨b, off, rfl, _, hb, hc⟩
  · simp at hi
  · exact ⟨b, off, rfl, hb, hc i hi⟩
set_option maxHeartbeats 1000000 in
theorem compareLimbs_any (B : Nat) (va vb : Value) (a b : List Nat) (w : World) (ha : IsL B w va a) (hb : IsL B w vb b) :
    Calls Tryd.prog 68 #[va, vb] w fun e w' => e = .returned (.int .i64 (cmpL a b)) ∧ Below w.heap.size w w' := by
  obtain ⟨pa, ca, rfl, _⟩ := id ha
  obtain ⟨pb, cb, rfl, _⟩ := id hb
  obtain ⟨_, ha1, ha2, haok, hca⟩ := ha.cells
  obtain ⟨_, hb1, hb2, hbok, hcb⟩ := hb.cells
  unfold maxLen at ha2 hb2
  have HA : Hid (∀ i, i < a.length → ∃ b off, pa = some ⟨b, off, none⟩ ∧ b < w.heap.size ∧ w.cell? ⟨b, off + i, none⟩ = some (.int .u32 (a.getD i 0 : Nat))) := hca
  have HB : Hid (∀ i, i < b.length → ∃ c off, pb = some ⟨c, off, none⟩ ∧ c < w.heap.size ∧ w.cell? ⟨c, off + i, none⟩ = some (.int .u32 (b.getD i 0 : Nat))) := hcb
  clear hca hcb ha hb haok hbok
  by_cases h1 : a.length = b.length
  · have z : ((a.length : Int) != b.length) = false := by rw [bne_eq_false_iff_eq]; omega
    have HR : Hid (cmpL a b = cmpTop a b a.length) := by show cmpL a b = _; unfold cmpL; rw [if_neg (by omega), if_neg (by omega)]
    have HL : Hid (a.length = b.length) := h1
    clear h1
    go_enter Tryd.func68, Tryd.ntmps68
    go_wp2
    go_loopw [5] (fun i wr => ∃ k : Nat, k ≤ a.length ∧ i = .int .i64 (k - 1) ∧ cmpTop a b a.length = cmpTop a b k ∧ Below w.heap.size w wr) (fun i _ => (intOf i + 1).toNat)
    case atStart => exact ⟨a.length, Nat.le_refl _, rfl, rfl, Below.refl _ _⟩
    case round =>
      obtain ⟨k, hk, rfl, hp, hB⟩ := hrel
      have HP : Hid (cmpTop a b a.length = cmpTop a b k) := hp
      have HBB : Hid (Below w.heap.size w wr) := hB
      clear hp hB
      cases k with
      | zero =>
        go_wp2
        go_ret
        exact ⟨ret_int (by rw [HR.out, HP.out]; rfl), HBB.out⟩
      | succ k =>
        obtain ⟨ba, oa, rfl, hla, hca⟩ := HA.out k (by omega)
        obtain ⟨bb, ob, rfl, hlb, hcb⟩ := HB.out k (by have := HL.out; omega)
        rw [← HBB.out.cell (p := ⟨ba, oa + k, none⟩) hla] at hca
        rw [← HBB.out.cell (p := ⟨bb, ob + k, none⟩) hlb] at hcb
        obtain ⟨x, hx⟩ : ∃ x, a.getD k 0 = x := ⟨_, rfl⟩
        obtain ⟨y, hy⟩ : ∃ y, b.getD k 0 = y := ⟨_, rfl⟩
        have HC : Hid (cmpTop a b (k + 1) = if x < y then -1 else if y < x then 1 else cmpTop a b k) := by rw [← hx, ← hy]; rfl
        rw [hx] at hca
        rw [hy] at hcb
        have hkb : k < b.length := by have := HL.out; omega
        clear hx hy
        by_cases h1 : x < y
        · have HE : Hid (cmpTop a b (k + 1) = -1) := HC.out.trans (if_pos h1)
          clear HC
          go_wp2
          go_quiet (fail)
          go_wp2
          go_ret
          exact ⟨ret_int (by rw [HR.out, HP.out, HE.out]), below_drewN HBB.out _⟩
        · by_cases h2 : y < x
          · have HE : Hid (cmpTop a b (k + 1) = 1) := HC.out.trans ((if_neg h1).trans (if_pos h2))
            clear HC
            go_wp2
            go_quiet (fail)
            go_wp2
            go_quiet (fail)
            go_wp2
            go_ret
            exact ⟨ret_int (by rw [HR.out, HP.out, HE.out]), below_drewN (below_drewN HBB.out _) _⟩
          · have HE : Hid (cmpTop a b (k + 1) = cmpTop a b k) := HC.out.trans ((if_neg h1).trans (if_neg h2))
            clear HC
            go_wp2
            go_quiet (fail)
            go_wp2
            go_quiet (fail)
            go_wp2
            go_roundw
            case rel => exact ⟨k, by omega, val_int (by omega), HP.out.trans HE.out, below_drewN HBB.out _⟩
            case measure => simp [intOf]
  · have z : ((a.length : Int) != b.length) = true := by rw [bne_iff_ne]; omega
    by_cases h2 : a.length < b.length
    · have HR : Hid (cmpL a b = -1) := if_pos h2
      go_enter Tryd.func68, Tryd.ntmps68
      go_wp2
      go_ret
      exact ⟨ret_int HR.out.symm, Below.refl _ _⟩
    · have HR : Hid (cmpL a b = 1) := (if_neg h2).trans (if_pos (by omega))
      go_enter Tryd.func68, Tryd.ntmps68
      go_wp2
      go_ret
      exact ⟨ret_int HR.out.symm, Below.refl _ _⟩
set_option maxHeartbeats 1000000 in
theorem l1CmpD_any (B : Nat) (va vb : Value) (a b : List Nat) (w : World) (ha : IsL B w va a) (hb : IsL B w vb b) :
    Calls Tryd.prog 57 #[va, vb] w fun e w' => e = .returned (.int .i64 (cmpL a b)) ∧ Below w.heap.size w w' := by
  obtain ⟨pa, ca, rfl, _⟩ := id ha
  obtain ⟨pb, cb, rfl, _⟩ := id hb
  obtain ⟨_, ha1, ha2, haok, hca⟩ := ha.cells
  obtain ⟨_, hb1, hb2, hbok, hcb⟩ := hb.cells
  unfold maxLen at ha2 hb2
  have HA : Hid (∀ i, i < a.length → ∃ b off, pa = some ⟨b, off, none⟩ ∧ b < w.heap.size ∧ w.cell? ⟨b, off + i, none⟩ = some (.int .u32 (a.getD i 0 : Nat))) := hca
  have HB : Hid (∀ i, i < b.length → ∃ c off, pb = some ⟨c, off, none⟩ ∧ c < w.heap.size ∧ w.cell? ⟨c, off + i, none⟩ = some (.int .u32 (b.getD i 0 : Nat))) := hcb
  clear hca hcb ha hb haok hbok
  by_cases h1 : a.length = b.length
  · have z : ((a.length : Int) != b.length) = false := by rw [bne_eq_false_iff_eq]; omega
    have HR : Hid (cmpL a b = cmpTop a b a.length) := by show cmpL a b = _; unfold cmpL; rw [if_neg (by omega), if_neg (by omega)]
    have HL : Hid (a.length = b.length) := h1
    clear h1
    go_enter Tryd.func57, Tryd.ntmps57
    go_wp2
    go_loopw [5] (fun i wr => ∃ k : Nat, k ≤ a.length ∧ i = .int .i64 (k - 1) ∧ cmpTop a b a.length = cmpTop a b k ∧ Below w.heap.size w wr) (fun i _ => (intOf i + 1).toNat)
    case atStart => exact ⟨a.length, Nat.le_refl _, rfl, rfl, Below.refl _ _⟩
    case round =>
      obtain ⟨k, hk, rfl, hp, hB⟩ := hrel
      have HP : Hid (cmpTop a b a.length = cmpTop a b k) := hp
      have HBB : Hid (Below w.heap.size w wr) := hB
      clear hp hB
      cases k with
      | zero =>
        go_wp2
        go_ret
        exact ⟨ret_int (by rw [HR.out, HP.out]; rfl), HBB.out⟩
      | succ k =>
        obtain ⟨ba, oa, rfl, hla, hca⟩ := HA.out k (by omega)
        obtain ⟨bb, ob, rfl, hlb, hcb⟩ := HB.out k (by have := HL.out; omega)
        rw [← HBB.out.cell (p := ⟨ba, oa + k, none⟩) hla] at hca
        rw [← HBB.out.cell (p := ⟨bb, ob + k, none⟩) hlb] at hcb
        obtain ⟨x, hx⟩ : ∃ x, a.getD k 0 = x := ⟨_, rfl⟩
        obtain ⟨y, hy⟩ : ∃ y, b.getD k 0 = y := ⟨_, rfl⟩
        have HC : Hid (cmpTop a b (k + 1) = if x < y then -1 else if y < x then 1 else cmpTop a b k) := by rw [← hx, ← hy]; rfl
        rw [hx] at hca
        rw [hy] at hcb
        have hkb : k < b.length := by have := HL.out; omega
        clear hx hy
        by_cases h1 : x < y
        · have HE : Hid (cmpTop a b (k + 1) = -1) := HC.out.trans (if_pos h1)
          clear HC
          go_wp2
          go_quiet (fail)
          go_wp2
          go_ret
          exact ⟨ret_int (by rw [HR.out, HP.out, HE.out]), below_drewN HBB.out _⟩
        · by_cases h2 : y < x
          · have HE : Hid (cmpTop a b (k + 1) = 1) := HC.out.trans ((if_neg h1).trans (if_pos h2))
            clear HC
            go_wp2
            go_quiet (fail)
            go_wp2
            go_quiet (fail)
            go_wp2
            go_ret
            exact ⟨ret_int (by rw [HR.out, HP.out, HE.out]), below_drewN (below_drewN HBB.out _) _⟩
          · have HE : Hid (cmpTop a b (k + 1) = cmpTop a b k) := HC.out.trans ((if_neg h1).trans (if_neg h2))
            clear HC
            go_wp2
            go_quiet (fail)
            go_wp2
            go_quiet (fail)
            go_wp2
            go_roundw
            case rel => exact ⟨k, by omega, val_int (by omega), HP.out.trans HE.out, below_drewN HBB.out _⟩
            case measure => simp [intOf]
  · have z : ((a.length : Int) != b.length) = true := by rw [bne_iff_ne]; omega
    by_cases h2 : a.length < b.length
    · have HR : Hid (cmpL a b = -1) := if_pos h2
      go_enter Tryd.func57, Tryd.ntmps57
      go_wp2
      go_ret
      exact ⟨ret_int HR.out.symm, Below.refl _ _⟩
    · have HR : Hid (cmpL a b = 1) := (if_neg h2).trans (if_pos (by omega))
      go_enter Tryd.func57, Tryd.ntmps57
      go_wp2
      go_ret
      exact ⟨ret_int HR.out.symm, Below.refl _ _⟩
end Go.Proofs.YtpjnglcojamfmaaDoor
namespace Go.Proofs.YtpjnglcojamfmaaDoor
open Go.ChangeShapes Go.WideShapes Go.ChangeAt Go.RowKit
/-- A whole number as the specification holds it: its sign and its limbs. -/
def sg (neg : Bool) (n : Nat) : Int := if neg then -(n : Int) else n
def IsZ (B : Nat) (w : World) (z : Value) (neg : Bool) (t : List Nat) : Prop :=
  okL t ∧ isTrim t ∧ ((2 < t.length ∧ ∃ v, z = .agg #[.int .i64 0, .bool neg, v] ∧ IsL B w v t) ∨
  (t.length ≤ 2 ∧ z = .agg #[.int .i64 (sg neg (val t)), .bool false, .slice none 0 0]))
theorem IsZ.below {B : Nat} {w w' : World} {z : Value} {neg : Bool} {t : List Nat} (h : IsZ B w z neg t) (hb : Below w.heap.size w w') : IsZ B w' z neg t := by
  obtain ⟨h1, h2, h3⟩ := h
  refine ⟨h1, h2, ?_⟩
  rcases h3 with ⟨h3, v, rfl, hv⟩ | h3
  · exact .inl ⟨h3, v, rfl, hv.below hb⟩
  · exact .inr h3
/-- The value of the limbs from i on, as the loop reckons it. -/
def vfrom (l : List Nat) (i : Nat) : Nat := val (l.drop i)
theorem vfrom_step (l : List Nat) (i : Nat) (h : i < l.length) : vfrom l i = vfrom l (i + 1) * 1000000000 + l.getD i 0 := by
  unfold vfrom
  rw [List.drop_eq_getElem_cons h]
  simp only [val, List.getD_eq_getElem?_getD, List.getElem?_eq_getElem h, Option.getD_some]
  omega
theorem vfrom_end (l : List Nat) : vfrom l l.length = 0 := by unfold vfrom; rw [List.drop_length]; rfl
theorem vfrom_lt (l : List Nat) (hok : okL l) (i : Nat) (h : l.length ≤ i + 2) : vfrom l i < 1000000000000000000 := by
  unfold vfrom
  have hok' : okL (l.drop i) := fun x hx => hok x (List.mem_of_mem_drop hx)
  have hlen : (l.drop i).length ≤ 2 := by rw [List.length_drop]; omega
  match hl : l.drop i, hlen with
  | [], _ => simp [val]
  | [a], _ => have := hok' a (by rw [hl]; simp); simp [val]; omega
  | [a, b], _ => have := hok' a (by rw [hl]; simp); have := hok' b (by rw [hl]; simp); simp [val]; omega
def mkZ (neg : Bool) (a : Option Addr) (cap : Nat) (t : List Nat) : Value :=
  if 2 < t.length then .agg #[.int .i64 0, .bool neg, .slice a t.length cap] else .agg #[.int .i64 (sg neg (val t)), .bool false, .slice none 0 0]
theorem mkZ_big {neg : Bool} {a : Option Addr} {cap : Nat} {t : List Nat} (h : 2 < t.length) : mkZ neg a cap t = .agg #[.int .i64 0, .bool neg, .slice a t.length cap] := if_pos h
theorem mkZ_small {neg : Bool} {a : Option Addr} {cap : Nat} {t : List Nat} (h : ¬ 2 < t.length) : mkZ neg a cap t = .agg #[.int .i64 (sg neg (val t)), .bool false, .slice none 0 0] := if_neg h
set_option maxHeartbeats 1000000 in
theorem l1Make_row (neg : Bool) (b off cap : Nat) (l : List Nat) (w : World) (hl : l.length ≤ cap) (hcap : cap ≤ maxLen) (hok : okL l) (hb : b < w.heap.size)
    (hc : ∀ i, i < l.length → w.cell? ⟨b, off + i, none⟩ = some (.int .u32 (l.getD i 0 : Nat))) :
    Calls Tryd.prog 21 #[.bool neg, .slice (some ⟨b, off, none⟩) l.length cap] w fun e w' =>
      e = .returned (mkZ neg (some ⟨b, off, none⟩) cap (trimL l)) ∧ Below w.heap.size w w' := by
  unfold maxLen at hcap
  have HC : Hid (∀ o, ∀ i, i < l.length → (w.alloc o).cell? ⟨b, off + i, none⟩ = some (.int .u32 (l.getD i 0 : Nat))) := fun o i hi => by
    rw [World.cell?_alloc_past _ _ _ hb]; exact hc i hi
  clear hc
  go_enter Tryd.func21, Tryd.ntmps21
  go_wp2
  go_loop [5] (fun n => ∃ k : Nat, k ≤ l.length ∧ n = .int .i64 k ∧ trimL (l.take k) = trimL l) (fun n => (intOf n).toNat)
  case atStart => exact ⟨l.length, Nat.le_refl _, rfl, by rw [List.take_length]⟩
  case round =>
    obtain ⟨k, hk, rfl, hp⟩ := hrel
    have HP : Hid (trimL (l.take k) = trimL l) := hp
    clear hp
    cases k with
    | zero =>
      have HE : Hid (trimL l = []) := by rw [← HP.out]; rfl
      cases neg
      all_goals
        go_wp2
        refine wp_loop_rounds 1 ?_
        rw [rounds_succ]
        go_wp2
        refine bodyPost_ret (v := .agg #[.int .i64 0, .bool false, .slice none 0 0]) ?_ rfl ⟨?_, below_alloc _ _⟩
        · simp [results, Tryd.results21, go_sem]
        · rw [HE.out, mkZ_small (by simp)]; simp [sg, val]
    | succ m =>
      obtain ⟨x, hx⟩ : ∃ x, l.getD m 0 = x := ⟨_, rfl⟩
      have hcell := fun o => HC.out o m (by omega)
      simp only [hx] at hcell
      have HX : Hid (l.getD m 0 = x) := hx
      clear hx
      by_cases h0 : x = 0
      · have hz : ((x : Int) == 0) = true := by rw [beq_iff_eq]; omega
        have HE : Hid (trimL (l.take m) = trimL l) := by rw [← trimL_take_zero l m (by omega) (by rw [HX.out, h0])]; exact HP.out
        clear h0
        go_wp2
        go_round
        case rel => exact ⟨m, by omega, val_int (by omega), HE.out⟩
        case measure => simp [intOf]
      · have hz : ((x : Int) == 0) = false := by rw [beq_eq_false_iff_ne]; omega
        have HT : Hid (trimL l = l.take (m + 1)) := HP.out.symm.trans (trimL_take_pos l m (by omega) (by rw [HX.out]; exact h0))
        have HN : Hid ((trimL l).length = m + 1) := by rw [HT.out, List.length_take]; exact Nat.min_eq_left (by omega)
        clear h0
        by_cases h2 : 2 < m + 1
        · go_wp2
          refine bodyPost_ret (v := .agg #[.int .i64 0, .bool neg, .slice (some ⟨b, off, none⟩) (m + 1) cap]) ?_ rfl ⟨?_, below_alloc _ _⟩
          · simp [results, Tryd.results21, go_sem]
          · rw [mkZ_big (by rw [HN.out]; exact h2), HN.out]
        · have hok2 : okL (trimL l) := trimL_ok l hok
          have HG : Hid (∀ i, i < m + 1 → l.getD i 0 = (trimL l).getD i 0) := fun i hi => (getD_trimL l i (by rw [HN.out]; exact hi)).symm
          obtain ⟨t, ht⟩ : ∃ t, trimL l = t := ⟨_, rfl⟩
          rw [ht] at hok2
          have HTt : Hid (trimL l = t) := ht
          have HGt : Hid (∀ i, i < m + 1 → l.getD i 0 = t.getD i 0) := by rw [ht] at HG; exact HG
          have HNt : Hid (t.length = m + 1) := by rw [← ht]; exact HN.out
          clear HG ht hok
          cases neg
          all_goals
            go_wp2
            go_loop [6, 7] (fun v i => ∃ j : Nat, j ≤ m + 1 ∧ i = .int .i64 (j - 1) ∧ v = .int .i64 (vfrom t j : Nat)) (fun _ i => (intOf i + 1).toNat)
            case atStart => exact ⟨m + 1, Nat.le_refl _, val_int (by omega), by rw [← HNt.out, vfrom_end]; rfl⟩
            case round =>
              obtain ⟨j, hj, rfl, rfl⟩ := hrel
              cases j with
              | zero =>
                have hv := vfrom_lt t hok2 0 (by rw [HNt.out]; omega)
                have HV : Hid (vfrom t 0 = val t) := rfl
                go_wp2
                refine bodyPost_ret ?_ rfl ⟨rfl, below_alloc _ _⟩
                rw [HTt.out, mkZ_small (by rw [HNt.out]; exact h2), ← HV.out]
                simp [results, Tryd.results21, go_sem, sg]
              | succ i =>
                have hv := vfrom_lt t hok2 i (by rw [HNt.out]; omega)
                have HS : Hid (vfrom t i = vfrom t (i + 1) * 1000000000 + t.getD i 0) := vfrom_step t i (by rw [HNt.out]; omega)
                obtain ⟨y, hy⟩ : ∃ y, t.getD i 0 = y := ⟨_, rfl⟩
                obtain ⟨q, hq⟩ : ∃ q, vfrom t (i + 1) = q := ⟨_, rfl⟩
                have hcell := fun o => HC.out o i (by omega)
                simp only [HGt.out i (by omega), hy] at hcell
                have hyb : y < 1000000000 := by
                  rw [← hy, List.getD_eq_getElem?_getD, List.getElem?_eq_getElem (by rw [HNt.out]; omega)]
                  exact hok2 _ (List.getElem_mem _)
                rw [hy, hq] at HS
                rw [hq]
                rw [HS.out] at hv
                clear hy hq
                go_wp2
                go_round
                case rel => exact ⟨i, by omega, val_int (by omega), by rw [HS.out]; exact val_int (by omega)⟩
                case measure => simp [intOf]
set_option maxHeartbeats 400000 in
theorem l1Make_none (neg : Bool) (a : Option Addr) (cap : Nat) (w : World) :
    Calls Tryd.prog 21 #[.bool neg, .slice a 0 cap] w fun e w' => e = .returned (.agg #[.int .i64 0, .bool false, .slice none 0 0]) ∧ Below w.heap.size w w' := by
  cases neg
  all_goals
    go_enter Tryd.func21, Tryd.ntmps21
    go_wp2
    refine wp_loop_rounds 1 ?_
    rw [rounds_succ]
    go_wp2
    refine wp_loop_rounds 1 ?_
    rw [rounds_succ]
    go_wp2
    refine bodyPost_ret (v := .agg #[.int .i64 0, .bool false, .slice none 0 0]) ?_ rfl ⟨rfl, below_alloc _ _⟩
    simp [results, Tryd.results21, go_sem]
theorem l1Make_any (B : Nat) (neg : Bool) (v : Value) (l : List Nat) (w : World) (h : IsL B w v l) :
    Calls Tryd.prog 21 #[.bool neg, v] w fun e w' => ∃ z, e = .returned z ∧ (∀ B W, IsL B W v l → IsZ B W z neg (trimL l)) ∧ Below w.heap.size w w' := by
  obtain ⟨a, cap, rfl, hl, hcap, hok, hr⟩ := h
  rcases hr with rfl | ⟨b, off, rfl, _, hb, hc⟩
  · refine (l1Make_none neg a cap w).mono ?_
    rintro e w' ⟨rfl, hb⟩
    refine ⟨_, rfl, fun B W h => ⟨hok, trimL_trim _, .inr ⟨by simp [trimL_nil], ?_⟩⟩, hb⟩
    simp [trimL_nil, sg, val]
  · refine (l1Make_row neg b off cap l w hl hcap hok hb hc).mono ?_
    rintro e w' ⟨rfl, hb⟩
    refine ⟨_, rfl, fun B W h => ⟨trimL_ok l hok, trimL_trim _, ?_⟩, hb⟩
    by_cases h2 : 2 < (trimL l).length
    · exact .inl ⟨h2, _, mkZ_big h2, IsL.cut B W h⟩
    · exact .inr ⟨by omega, mkZ_small h2⟩
/-- What the two short lists of limbs are. -/
theorem short_cases (t : List Nat) (h : t.length ≤ 2) (hok : okL t) (htr : isTrim t) :
    t = [] ∨ (∃ a, t = [a] ∧ 0 < a ∧ a < 1000000000) ∨ ∃ a b, t = [a, b] ∧ a < 1000000000 ∧ 0 < b ∧ b < 1000000000 := by
  match t, h with
  | [], _ => exact .inl rfl
  | [a], _ =>
    have h1 := hok a (by simp)
    have h2 := htr (by simp)
    simp at h2
    exact .inr (.inl ⟨a, rfl, by omega, h1⟩)
  | [a, b], _ =>
    have h1 := hok a (by simp)
    have h3 := hok b (by simp)
    have h2 := htr (by simp)
    simp at h2
    exact .inr (.inr ⟨a, b, rfl, h1, by omega, h3⟩)
theorem negOf_small (neg : Bool) (t : List Nat) (h2 : t.length ≤ 2) (hok : okL t) (htr : isTrim t) : negOf neg t = decide (sg neg (val t) < 0) := by
  rcases short_cases t h2 hok htr with rfl | ⟨a, rfl, h3, h4⟩ | ⟨a, b, rfl, h3, h4, h5⟩
  · cases neg <;> simp [negOf, sg, val]
  · cases neg <;> simp [negOf, sg, val] <;> omega
  · cases neg <;> simp [negOf, sg, val] <;> omega
set_option maxHeartbeats 400000 in
theorem l1Neg_any (B : Nat) (z : Value) (neg : Bool) (t : List Nat) (w : World) (h : IsZ B w z neg t) :
    Calls Tryd.prog 37 #[z] w fun e w' => e = .returned (.bool (negOf neg t)) ∧ Below w.heap.size w w' := by
  obtain ⟨hok, htr, h⟩ := h
  rcases h with ⟨h2, v, rfl, a, cap, rfl, hl, hcap, _, _⟩ | ⟨h2, rfl⟩
  · have hp : 0 < t.length := by omega
    unfold maxLen at hcap
    have HF : Hid (negOf neg t = neg) := by show negOf neg t = neg; simp [negOf, hp]
    go_enter Tryd.func37, Tryd.ntmps37
    go_wp2
    go_ret
    exact ⟨by rw [HF.out]; rfl, below_alloc _ _⟩
  · obtain ⟨n, hn⟩ : ∃ n, sg neg (val t) = n := ⟨_, rfl⟩
    have HF : Hid (negOf neg t = decide (n < 0)) := by
      rw [← hn]; exact negOf_small neg t h2 hok htr
    rw [hn]
    clear hn
    go_enter Tryd.func37, Tryd.ntmps37
    go_wp2
    go_ret
    exact ⟨by rw [HF.out]; rfl, below_alloc _ _⟩
theorem isL_one {w : World} {x : Int} (B e a g : Nat) (ha : a < 1000000000) (hx : x = a) (hg : w.heap.size = g) (hB : B ≤ g) : IsL B (w.alloc (.cells #[.int .u32 x] e)) (.slice (some ⟨g, 0, none⟩) 1 1) [a] := by
  subst hx; subst hg
  exact ⟨_, 1, rfl, by simp, by unfold maxLen; omega, fun x hx => by simp at hx; omega, .inr ⟨w.heap.size, 0, rfl, hB, by simp, fun i hi => by
    match i, hi with
    | 0, _ => rw [World.cell?_alloc_at _ _ _ _ rfl]; rfl⟩⟩
theorem isL_two {w : World} {x y : Int} (B e a b g : Nat) (ha : a < 1000000000) (hb : b < 1000000000) (hx : x = a) (hy : y = b) (hg : w.heap.size = g) (hB : B ≤ g) : IsL B (w.alloc (.cells #[.int .u32 x, .int .u32 y] e)) (.slice (some ⟨g, 0, none⟩) 2 2) [a, b] := by
  subst hx; subst hy; subst hg
  exact ⟨_, 2, rfl, by simp, by unfold maxLen; omega, fun x hx => by simp at hx; omega, .inr ⟨w.heap.size, 0, rfl, hB, by simp, fun i hi => by
    match i, hi with
    | 0, _ => rw [World.cell?_alloc_at _ _ _ _ rfl]; rfl
    | 1, _ => rw [World.cell?_alloc_at _ _ _ _ rfl]; rfl⟩⟩
set_option maxRecDepth 100000 in
set_option maxHeartbeats 400000 in
theorem l1Limbs_any (B : Nat) (z : Value) (neg : Bool) (t : List Nat) (w : World) (h : IsZ B w z neg t) (hB : B ≤ w.heap.size) :
    Calls Tryd.prog 22 #[z] w fun e w' => ∃ v, e = .returned v ∧ IsL B w' v t ∧ Below w.heap.size w w' := by
  obtain ⟨hok, htr, h⟩ := h
  rcases h with ⟨h2, v, rfl, hv⟩ | ⟨h2, rfl⟩
  · have HV : Hid (IsL B w v t) := hv
    obtain ⟨a, cap, rfl, hl, hcap, _, _⟩ := hv
    have hp : 0 < t.length := by omega
    unfold maxLen at hcap
    go_enter Tryd.func22, Tryd.ntmps22
    go_wp2
    go_ret
    exact ⟨_, rfl, HV.out.below (below_alloc _ _), below_alloc _ _⟩
  · rcases short_cases t h2 hok htr with rfl | ⟨a, rfl, h3, h4⟩ | ⟨a, b, rfl, h3, h4, h5⟩
    · cases neg
      all_goals
        simp only [sg, val]
        go_enter Tryd.func22, Tryd.ntmps22
        go_wp2
        go_ret
        exact ⟨_, rfl, ⟨none, 0, rfl, by simp, by unfold maxLen; omega, hok, .inl rfl⟩, below_alloc _ _⟩
    · obtain ⟨x, hx⟩ : ∃ x : Int, (a : Int) = x := ⟨_, rfl⟩
      have x1 : 0 < x := by omega
      have x2 : x < 1000000000 := by omega
      have ez : (x == 0) = false := by rw [beq_eq_false_iff_ne]; omega
      have ev : (val [a] : Int) = x := by simp [val, hx]
      have HX : Hid ((a : Int) = x) := hx
      unfold sg
      rw [ev]
      clear hx ev
      cases neg
      all_goals
        simp only [if_true, if_false, Bool.false_eq_true]
        go_enter Tryd.func22, Tryd.ntmps22
        go_wp2
        go_ret
        exact ⟨_, rfl, isL_one B _ a _ h4 HX.out.symm (by simp) (by omega), (below_alloc _ _).alloc (by simp) _⟩
    · obtain ⟨x, hx⟩ : ∃ x : Int, (a : Int) + 1000000000 * b = x := ⟨_, rfl⟩
      have ev : (val [a, b] : Int) = x := by simp [val, hx]
      have x1 : 1000000000 ≤ x := by omega
      have x2 : x < 1000000000000000000 := by omega
      have HA : Hid (x % 1000000000 = a) := by show x % 1000000000 = a; omega
      have HBb : Hid (x / 1000000000 = b) := by show x / 1000000000 = b; omega
      have ez : (x == 0) = false := by rw [beq_eq_false_iff_ne]; omega
      unfold sg
      rw [ev]
      clear hx ev
      cases neg
      all_goals
        simp only [if_true, if_false, Bool.false_eq_true]
        go_enter Tryd.func22, Tryd.ntmps22
        go_wp2
        go_ret
        exact ⟨_, rfl, isL_two B _ a b _ h3 h5 HA.out HBb.out (by simp) (by omega), (below_alloc _ _).alloc (by simp) _⟩
end Go.Proofs.YtpjnglcojamfmaaDoor
namespace Go.Proofs.YtpjnglcojamfmaaDoor
open Go.RowKit
/-! Limbs and the numbers that they stand for. -/
def ord (x y : Nat) : Int := if x < y then -1 else if y < x then 1 else 0
def ordI (x y : Int) : Int := if x < y then -1 else if y < x then 1 else 0
theorem val_append (a b : List Nat) : val (a ++ b) = val a + 1000000000 ^ a.length * val b := by
  induction a with
  | nil => simp [val]
  | cons x a ih =>
    simp only [List.cons_append, val, ih, List.length_cons, Nat.pow_succ]
    rw [Nat.mul_add, Nat.mul_comm (1000000000 ^ a.length) 1000000000, Nat.mul_assoc]
    omega
theorem val_lt (a : List Nat) (h : okL a) : val a < 1000000000 ^ a.length := by
  induction a with
  | nil => simp [val]
  | cons x a ih =>
    have h1 := h x (by simp)
    have h2 := ih (fun y hy => h y (by simp [hy]))
    simp only [val, List.length_cons, Nat.pow_succ]
    omega
theorem val_snoc (a : List Nat) (x : Nat) : val (a ++ [x]) = val a + 1000000000 ^ a.length * x := by rw [val_append]; simp [val]
theorem val_ge (a : List Nat) (htr : isTrim a) (hne : a ≠ []) : 1000000000 ^ (a.length - 1) ≤ val a := by
  have h := htr hne
  rw [← List.dropLast_concat_getLast hne] 
  rw [val_snoc]
  simp only [List.length_append, List.length_cons, List.length_nil, List.length_dropLast]
  have : a.length - 1 + (0 + 1) - 1 = a.length - 1 := by omega
  rw [this]
  have h2 : 1000000000 ^ (a.length - 1) * 1 ≤ 1000000000 ^ (a.length - 1) * a.getLast hne := Nat.mul_le_mul_left _ (Nat.pos_of_ne_zero h)
  omega
theorem val_pos (a : List Nat) (htr : isTrim a) (hne : a ≠ []) : 0 < val a :=
  Nat.lt_of_lt_of_le (Nat.pow_pos (by decide)) (val_ge a htr hne)
theorem ord_eq_of (P A A' x y : Nat) (hA : A < P) (hA' : A' < P) : ord (A + P * x) (A' + P * y) = if x < y then -1 else if y < x then 1 else ord A A' := by
  unfold ord
  by_cases h1 : x < y
  · have : P * x + P ≤ P * y := by rw [← Nat.mul_succ]; exact Nat.mul_le_mul_left _ h1
    rw [if_pos h1, if_pos (by omega)]
  · rw [if_neg h1]
    by_cases h2 : y < x
    · have : P * y + P ≤ P * x := by rw [← Nat.mul_succ]; exact Nat.mul_le_mul_left _ h2
      rw [if_pos h2, if_neg (by omega), if_pos (by omega)]
    · have : x = y := by omega
      subst this
      rw [if_neg h2]
      by_cases h3 : A < A'
      · rw [if_pos h3, if_pos (by omega)]
      · rw [if_neg h3, if_neg (by omega)]
        by_cases h4 : A' < A
        · rw [if_pos h4, if_pos (by omega)]
        · rw [if_neg h4, if_neg (by omega)]
theorem okL_take (a : List Nat) (h : okL a) (k : Nat) : okL (a.take k) := fun x hx => h x (List.mem_of_mem_take hx)
theorem cmpTop_ord (a b : List Nat) (ha : okL a) (hb : okL b) (k : Nat) (h1 : k ≤ a.length) (h2 : k ≤ b.length) : cmpTop a b k = ord (val (a.take k)) (val (b.take k)) := by
  induction k with
  | zero => simp [cmpTop, ord, val]
  | succ k ih =>
    have la : (a.take k).length = k := by rw [List.length_take]; omega
    have lb : (b.take k).length = k := by rw [List.length_take]; omega
    have va := val_lt _ (okL_take a ha k)
    have vb := val_lt _ (okL_take b hb k)
    rw [la] at va
    rw [lb] at vb
    have ea : a.getD k 0 = a[k] := by rw [List.getD_eq_getElem?_getD, List.getElem?_eq_getElem (by omega)]; rfl
    have eb : b.getD k 0 = b[k] := by rw [List.getD_eq_getElem?_getD, List.getElem?_eq_getElem (by omega)]; rfl
    rw [List.take_succ_eq_append_getElem (by omega), List.take_succ_eq_append_getElem (by omega), val_snoc, val_snoc, la, lb, ord_eq_of _ _ _ _ _ va vb, ← ih (by omega) (by omega)]
    simp only [cmpTop, ea, eb]
theorem cmpL_ord (a b : List Nat) (ha : okL a) (hb : okL b) (ta : isTrim a) (tb : isTrim b) : cmpL a b = ord (val a) (val b) := by
  have lt_of : ∀ x y : List Nat, okL x → isTrim y → x.length < y.length → val x < val y := fun x y hx ty hl => by
    have h1 := val_lt x hx
    have h2 := val_ge y ty (by intro e; rw [e] at hl; simp at hl)
    have h3 : 1000000000 ^ x.length ≤ 1000000000 ^ (y.length - 1) := Nat.pow_le_pow_right (by decide) (by omega)
    omega
  unfold cmpL
  by_cases h1 : a.length < b.length
  · rw [if_pos h1]; unfold ord; rw [if_pos (lt_of a b ha tb h1)]
  · rw [if_neg h1]
    by_cases h2 : b.length < a.length
    · have := lt_of b a hb ta h2
      rw [if_pos h2]; unfold ord; rw [if_neg (by omega), if_pos this]
    · rw [if_neg h2, cmpTop_ord a b ha hb a.length (Nat.le_refl _) (by omega), List.take_length, show a.length = b.length by omega, List.take_length]
/-- The order by sign and limbs is that of the numbers. -/
def cmpI (na nb : Bool) (a b : List Nat) : Int := if na = nb then (if na then cmpL b a else cmpL a b) else if na then -1 else 1
theorem cmpI_ord (na nb : Bool) (a b : List Nat) (ha : okL a) (hb : okL b) (ta : isTrim a) (tb : isTrim b) : cmpI (negOf na a) (negOf nb b) a b = ordI (sg na (val a)) (sg nb (val b)) := by
  have ea : a = [] ∧ val a = 0 ∨ 0 < a.length ∧ 0 < val a := by
    by_cases h : a = []
    · exact .inl ⟨h, by rw [h]; rfl⟩
    · exact .inr ⟨List.length_pos_iff.2 h, val_pos a ta h⟩
  have eb : b = [] ∧ val b = 0 ∨ 0 < b.length ∧ 0 < val b := by
    by_cases h : b = []
    · exact .inl ⟨h, by rw [h]; rfl⟩
    · exact .inr ⟨List.length_pos_iff.2 h, val_pos b tb h⟩
  unfold cmpI
  rw [cmpL_ord a b ha hb ta tb, cmpL_ord b a hb ha tb ta]
  unfold ord ordI negOf sg
  rcases ea with ⟨rfl, va⟩ | ⟨la, va⟩ <;> rcases eb with ⟨rfl, vb⟩ | ⟨lb, vb⟩ <;> cases na <;> cases nb <;> simp_all <;> (repeat' split) <;> omega
end Go.Proofs.YtpjnglcojamfmaaDoor
namespace Go.Proofs.YtpjnglcojamfmaaDoor
open Go.ChangeShapes Go.WideShapes Go.ChangeAt Go.RowKit
abbrev U32s (l : List Nat) : List Value := l.map (fun x => Value.int .u32 (x : Nat))
/-- Block R holds just these limbs, and may be written. -/
def Row (w : World) (R : Nat) (l : List Nat) : Prop := w.heap[R]? = some (.cells (U32s l).toArray 51 (0, 0))
theorem Row.lt {w : World} {R : Nat} {l : List Nat} (h : Row w R l) : R < w.heap.size := (Array.getElem?_eq_some_iff.1 h).1
theorem Row.cell {w : World} {R : Nat} {l : List Nat} (h : Row w R l) (i : Nat) (hi : i < l.length) : w.cell? ⟨R, i, none⟩ = some (.int .u32 (l.getD i 0 : Nat)) := by
  simp [World.cell?, show w.heap[R]? = _ from h, List.getElem?_eq_getElem hi, List.getD_eq_getElem?_getD]
theorem Row.frozen {w : World} {R : Nat} {l : List Nat} (h : Row w R l) (i : Nat) : w.frozen? ⟨R, i, none⟩ = false := by
  simp [World.frozen?, show w.heap[R]? = _ from h]
theorem Row.set {w : World} {R : Nat} {l : List Nat} (h : Row w R l) (i x : Nat) : Row (w.setCell ⟨R, i, none⟩ (.int .u32 (x : Nat))) R (l.set i x) := by
  obtain ⟨hlt, hk⟩ := Array.getElem?_eq_some_iff.1 h
  show (w.heap.modify R _)[R]? = _
  rw [Array.getElem?_eq_getElem (by rw [Array.size_modify]; exact hlt), Array.getElem_modify_self, hk]
  simp [U32s, List.map_set]
theorem Row.kept {w w' : World} {R : Nat} {l : List Nat} (h : Row w R l) (hb : Below w.heap.size w w') : Row w' R l := (hb.block R h.lt).trans h
theorem Row.drew {w : World} {R : Nat} {l : List Nat} (h : Row w R l) : Row w.drew R l := h
theorem row_of_full {w : World} {base g n : Nat} {l : List Nat} (h : w.ownsRow base 51 1 (.slice (some ⟨g, 0, none⟩) n n) n (U32s l)) : Row w g l := by
  rcases h.2 with ⟨e, _⟩ | ⟨g', cap, cur, e, _, hb, _, _, hc, ht⟩
  · cases e
  · simp only [Value.slice.injEq, Option.some.injEq, Addr.mk.injEq, and_true, true_and] at e
    obtain ⟨rfl, rfl⟩ := e
    rw [Nat.mul_one] at hc ht
    rw [List.take_of_length_le (by rw [Array.length_toList]; omega)] at ht
    unfold Row
    rw [hb, ← ht]
theorem Row.isL {w : World} {R B cap : Nat} {l : List Nat} (h : Row w R l) (hB : B ≤ R) (hok : okL l) (hc : l.length ≤ cap) (hm : cap ≤ maxLen) : IsL B w (.slice (some ⟨R, 0, none⟩) l.length cap) l :=
  ⟨_, cap, rfl, hc, hm, hok, .inr ⟨R, 0, rfl, hB, h.lt, fun i hi => by rw [Nat.zero_add]; exact h.cell i hi⟩⟩
theorem made_zero (n : Nat) : (madeCells (Value.int .u32 0).cells (n * 1)).toList = U32s (List.replicate n 0) := by
  rw [Nat.mul_one]
  show (madeCells #[.int .u32 0] n).toList = _
  rw [toList_madeCells_one]
  simp [U32s]
/-- The value of the first i limbs, when limb i is written. -/
theorem val_take_set (l : List Nat) (i x : Nat) (hi : i < l.length) : val ((l.set i x).take (i + 1)) = val (l.take i) + 1000000000 ^ i * x := by
  have e : (l.set i x).take (i + 1) = l.take i ++ [x] := by
    rw [List.take_succ_eq_append_getElem (by simpa using hi), List.getElem_set_self]
    congr 1
    rw [List.take_set_of_le (Nat.le_refl i)]
  rw [e, val_snoc, List.length_take, Nat.min_eq_left (by omega)]
theorem val_take_succ (l : List Nat) (i : Nat) : val (l.take (i + 1)) = val (l.take i) + 1000000000 ^ i * l.getD i 0 := by
  by_cases hi : i < l.length
  · rw [List.take_succ_eq_append_getElem hi, val_snoc, List.length_take, Nat.min_eq_left (by omega), List.getD_eq_getElem?_getD, List.getElem?_eq_getElem hi]; rfl
  · rw [List.take_of_length_le (by omega), List.take_of_length_le (by omega), List.getD_eq_getElem?_getD, List.getElem?_eq_none (by omega)]; simp
theorem okL_set (l : List Nat) (h : okL l) (i x : Nat) (hx : x < 1000000000) : okL (l.set i x) := fun y hy => by
  rcases List.mem_or_eq_of_mem_set hy with h1 | h1
  · exact h y h1
  · omega
end Go.Proofs.YtpjnglcojamfmaaDoor
