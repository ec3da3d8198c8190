import Derived.Test.YtfhgfclfhghlcaaDoorRows
import Derived.Test.YtfhgfclfhghlcaaDoorIsInt
import Derived.Test.YtfhgfclfhghlcaaDoorLimbs
import Derived.WalkKit
import Derived.WalkSpells
namespace Go.Proofs.YtfhgfclfhghlcaaDoor
open Go.ChangeShapes Go.WideShapes Go.ChangeAt Go.RowKit
/-- A slice of limbs as it lies in memory. -/
def IsL (B : Nat) (w : World) (v : Value) (l : List Nat) : Prop :=
  ∃ a cap, v = .slice a l.length cap ∧ l.length ≤ cap ∧ cap ≤ maxLen ∧ okL l ∧
    (l = [] ∨ ∃ b off, a = some ⟨b, off, none⟩ ∧ B ≤ b ∧ b < w.heap.size ∧ ∀ i, i < l.length → w.cell? ⟨b, off + i, none⟩ = some (.int .u32 (l.getD i 0 : Nat)))
theorem ret_int {k : IntKind} {a b : Int} (h : a = b) : Ending.returned (.int k a) = .returned (.int k b) := by rw [h]
theorem val_int {k : IntKind} {a b : Int} (h : a = b) : Value.int k a = Value.int k b := by rw [h]
theorem num_take_succ (s : ByteArray) (k : Nat) (h : k < s.size) : num (s.data.toList.take (k + 1)) = num (s.data.toList.take k) * 10 + (s[k].toNat - 48) := by
  rw [take_snoc s k h, num_snoc]
theorem dig_at (s : ByteArray) (hd : ∀ c ∈ s.data.toList, dig c) (k : Nat) (h : k < s.size) : 48 ≤ s[k].toNat ∧ s[k].toNat ≤ 57 :=
  hd s[k] (by show s.data[k] ∈ _; exact Array.getElem_mem_toList _)
theorem num_take_lt (s : ByteArray) (hd : ∀ c ∈ s.data.toList, dig c) (h9 : s.size ≤ 9) (k : Nat) (hk : k < s.size) : num (s.data.toList.take k) < 100000000 := by
  have h1 := num_lt (s.data.toList.take k) (fun c hc => hd c (List.mem_of_mem_take hc))
  have h2 : (s.data.toList.take k).length ≤ 8 := by rw [List.length_take]; omega
  have h3 : 10 ^ (s.data.toList.take k).length ≤ 10 ^ 8 := Nat.pow_le_pow_right (by omega) h2
  have : (10 : Nat) ^ 8 = 100000000 := by decide
  omega
set_option maxHeartbeats 400000 in
theorem readLimb_any (s : ByteArray) (w : World) (h9 : s.size ≤ 9) (hd : ∀ c ∈ s.data.toList, dig c) :
    Calls Tryd.prog 74 #[.string s] w fun e w' => e = .returned (.int .u32 (num s.data.toList : Nat)) ∧ w' = w := by
  have HD : Hid (∀ c ∈ s.data.toList, dig c) := hd
  clear hd
  go_enter Tryd.func74, Tryd.ntmps74
  go_wp2
  go_loop [3, 7] (fun t i => ∃ k : Nat, k ≤ s.size ∧ i = .int .i64 k ∧ t = .int .u32 (num (s.data.toList.take k) : Nat)) (fun _ i => s.size - (intOf i).toNat)
  case atStart => exact ⟨0, Nat.zero_le _, rfl, rfl⟩
  case round =>
    obtain ⟨k, hk, rfl, rfl⟩ := hrel
    by_cases hlt : k < s.size
    · have hb := num_take_lt s HD.out h9 k hlt
      have hc := dig_at s HD.out k hlt
      have HS : Hid (num (s.data.toList.take (k + 1)) = num (s.data.toList.take k) * 10 + (s[k].toNat - 48)) := num_take_succ s k hlt
      go_wp2
      go_round
      case rel =>
        refine ⟨k + 1, by omega, by go_num, ?_⟩
        rw [HS.out]
        exact val_int (by omega)
      case measure => simp [intOf]; omega
    · go_wp2
      go_ret
      exact ⟨ret_int (by rw [List.take_of_length_le (by rw [← Lib.size_eq]; omega)]), rfl⟩
set_option maxHeartbeats 400000 in
theorem trimLimbs_row (b off cap : Nat) (l : List Nat) (w : World) (hl : l.length ≤ cap) (hcap : cap ≤ maxLen)
    (hc : ∀ i, i < l.length → w.cell? ⟨b, off + i, none⟩ = some (.int .u32 (l.getD i 0 : Nat))) :
    Calls Tryd.prog 71 #[.slice (some ⟨b, off, none⟩) l.length cap] w fun e w' =>
      e = .returned (.slice (some ⟨b, off, none⟩) (trimL l).length cap) ∧ w' = w := by
  unfold maxLen at hcap
  have HC : Hid (∀ i, i < l.length → w.cell? ⟨b, off + i, none⟩ = some (.int .u32 (l.getD i 0 : Nat))) := hc
  clear hc
  go_enter Tryd.func71, Tryd.ntmps71
  go_wp2
  go_loop [0] (fun s => ∃ k : Nat, k ≤ l.length ∧ s = .slice (some ⟨b, off, none⟩) k cap ∧ trimL (l.take k) = trimL l) (fun s => match s with | .slice _ k _ => k | _ => 0)
  case atStart => exact ⟨l.length, Nat.le_refl _, rfl, by rw [List.take_length]⟩
  case round =>
    obtain ⟨k, hk, rfl, hp⟩ := hrel
    have HP : Hid (trimL (l.take k) = trimL l) := hp
    clear hp
    cases k with
    | zero =>
      go_wp2
      go_ret
      have : trimL l = [] := by rw [← HP.out]; rfl
      exact ⟨by rw [this]; rfl, rfl⟩
    | succ m =>
      obtain ⟨x, hx⟩ : ∃ x, l.getD m 0 = x := ⟨_, rfl⟩
      have hcell := HC.out m (by omega)
      rw [hx] at hcell
      have HX : Hid (l.getD m 0 = x) := hx
      clear hx
      by_cases h0 : x = 0
      · have hz : ((x : Int) == 0) = true := by rw [beq_iff_eq]; omega
        have HE : Hid (trimL (l.take m) = trimL l) := by rw [← trimL_take_zero l m (by omega) (by rw [HX.out, h0])]; exact HP.out
        clear h0
        go_wp2
        go_round
        case rel => exact ⟨m, by omega, rfl, HE.out⟩
        case measure => simp
      · have hz : ((x : Int) == 0) = false := by rw [beq_eq_false_iff_ne]; omega
        have HE : Hid ((trimL l).length = m + 1) := by
          rw [← HP.out, trimL_take_pos l m (by omega) (by rw [HX.out]; exact h0), List.length_take]; exact Nat.min_eq_left (by omega)
        clear h0
        go_wp2
        go_ret
        exact ⟨by rw [HE.out]; rfl, rfl⟩
set_option maxHeartbeats 400000 in
theorem trimLimbs_none (a : Option Addr) (cap : Nat) (w : World) :
    Calls Tryd.prog 71 #[.slice a 0 cap] w fun e w' => e = .returned (.slice a 0 cap) ∧ w' = w := by
  go_enter Tryd.func71, Tryd.ntmps71
  go_wp2
  refine wp_loop_rounds 1 ?_
  rw [rounds_succ]
  go_wp2
  go_ret
  exact ⟨rfl, rfl⟩
theorem getD_trimL (l : List Nat) (i : Nat) (h : i < (trimL l).length) : (trimL l).getD i 0 = l.getD i 0 := by
  rw [trimL_take l] at h ⊢
  rw [List.length_take] at h
  simp only [List.getD_eq_getElem?_getD, List.getElem?_take]
  rw [if_pos (by omega)]
/-- v' is v, cut to the limbs without the zeros at the top. -/
def CutL (v v' : Value) (l : List Nat) : Prop := ∀ B W, IsL B W v l → IsL B W v' (trimL l)
theorem IsL.cut {b off cap : Nat} {l : List Nat} : CutL (.slice (some ⟨b, off, none⟩) l.length cap) (.slice (some ⟨b, off, none⟩) (trimL l).length cap) l := by
  rintro B W ⟨a, cap', he, hl, hcap, hok, hr⟩
  have hle := trimL_len l
  simp only [Value.slice.injEq, true_and] at he
  obtain ⟨rfl, rfl⟩ := he
  refine ⟨_, _, rfl, by omega, hcap, trimL_ok l hok, ?_⟩
  rcases hr with h | ⟨b', off', he, hB, hb, hc⟩
  · exact .inl (by rw [h]; rfl)
  · refine .inr ⟨b', off', he, hB, hb, fun i hi => ?_⟩
    rw [getD_trimL l i hi]
    exact hc i (by omega)
theorem trimLimbs_any (B : Nat) (v : Value) (l : List Nat) (w : World) (h : IsL B w v l) :
    Calls Tryd.prog 71 #[v] w fun e w' => ∃ v', e = .returned v' ∧ CutL v v' l ∧ w' = w := by
  obtain ⟨a, cap, rfl, hl, hcap, hok, hr⟩ := h
  rcases hr with rfl | ⟨b, off, rfl, _, hb, hc⟩
  · refine (trimLimbs_none a cap w).mono ?_
    rintro e w' ⟨rfl, rfl⟩
    exact ⟨_, rfl, fun B W h => h, rfl⟩
  · refine (trimLimbs_row b off cap l w hl hcap hc).mono ?_
    rintro e w' ⟨rfl, rfl⟩
    exact ⟨_, rfl, IsL.cut, rfl⟩
theorem IsL.below {B : Nat} {w w' : World} {v : Value} {l : List Nat} (h : IsL B w v l) (hb : Below w.heap.size w w') : IsL B w' v l := by
  obtain ⟨a, cap, rfl, hl, hcap, hok, hr⟩ := h
  refine ⟨a, cap, rfl, hl, hcap, hok, ?_⟩
  rcases hr with rfl | ⟨b, off, rfl, hB, hlt, hc⟩
  · exact .inl rfl
  · refine .inr ⟨b, off, rfl, hB, Nat.lt_of_lt_of_le hlt hb.size, fun i hi => ?_⟩
    rw [hb.cell (p := ⟨b, off + i, none⟩) hlt]
    exact hc i hi
theorem IsL.mono {B B' : Nat} {w : World} {v : Value} {l : List Nat} (h : IsL B w v l) (hb : B' ≤ B) : IsL B' w v l := by
  obtain ⟨a, cap, rfl, hl, hcap, hok, hr⟩ := h
  refine ⟨a, cap, rfl, hl, hcap, hok, ?_⟩
  rcases hr with rfl | ⟨b, off, rfl, hB, hlt, hc⟩
  · exact .inl rfl
  · exact .inr ⟨b, off, rfl, Nat.le_trans hb hB, hlt, hc⟩
theorem IsL.setCell {B : Nat} {w : World} {v : Value} {l : List Nat} (h : IsL B w v l) (p : Addr) (u : Value) (hp : p.block < B) : IsL B (w.setCell p u) v l := by
  obtain ⟨a, cap, rfl, hl, hcap, hok, hr⟩ := h
  refine ⟨a, cap, rfl, hl, hcap, hok, ?_⟩
  rcases hr with rfl | ⟨b, off, rfl, hB, hlt, hc⟩
  · exact .inl rfl
  · refine .inr ⟨b, off, rfl, hB, by simpa using hlt, fun i hi => ?_⟩
    rw [← hc i hi]
    exact World.cell?_of_block (Below.heap_setCell w p u b (by omega))
theorem isL_of_owns {B e : Nat} {w : World} {v : Value} {l : List Nat} (h : w.ownsRow B e 1 v l.length (l.map (fun x => Value.int .u32 (x : Nat)))) (hok : okL l) : IsL B w v l := by
  have hcs := fun g hg => h.cells (g := g) hg
  have hlt := h.lt
  obtain ⟨_, h⟩ := h
  rcases h with ⟨rfl, hn⟩ | ⟨g, cap, cur, rfl, hB, hblk, hn, hcap, _, _⟩
  · exact ⟨none, 0, by rw [hn], by omega, by unfold maxLen; omega, hok, .inl (List.eq_nil_of_length_eq_zero hn)⟩
  · refine ⟨_, cap, rfl, hn, hcap, hok, .inr ⟨g, 0, rfl, hB, (hlt g rfl).2, fun i hi => ?_⟩⟩
    have := hcs g rfl i (.int .u32 (l.getD i 0 : Nat)) (by rw [List.getElem?_map]; simp [List.getD_eq_getElem?_getD, hi])
    by_cases i0 : i = 0
    · subst i0; simpa [Addr.add] using this
    · simpa [Addr.add, i0] using this
theorem below_alloc (w : World) (o : Obj) : Below w.heap.size w (w.alloc o) := (Below.refl _ _).alloc (Nat.le_refl _) o
def negOf (neg : Bool) (l : List Nat) : Bool := neg && decide (0 < l.length)
set_option maxHeartbeats 400000 in
theorem makeInteger_any (B : Nat) (neg : Bool) (v : Value) (l : List Nat) (w : World) (h : IsL B w v l) :
    Calls Tryd.prog 44 #[.bool neg, v] w fun e w' => ∃ v', e = .returned (.agg #[.bool (negOf neg (trimL l)), v']) ∧ CutL v v' l ∧ Below w.heap.size w w' := by
  have h1 : ∀ o, IsL B (w.alloc o) v l := fun o => h.below (below_alloc w o)
  have H1 : Hid (∀ o, IsL B (w.alloc o) v l) := h1
  clear h1 h
  cases neg
  all_goals
   go_enter Tryd.func44, Tryd.ntmps44
   go_wp2_with fail
   refine (trimLimbs_any B v l _ (H1.out _)).mono ?_
   rintro e w1 ⟨v', rfl, hv', rfl⟩
   have HV : Hid (CutL v v' l) := hv'
   obtain ⟨a, cap, rfl, hl, hcap, hok, hr⟩ := hv' _ _ (H1.out (.cells #[] 0))
   clear hr hok hv'
   go_wp2
   refine bodyPost_ret (v := .agg #[.bool (negOf _ (trimL l)), .slice a (trimL l).length cap]) ?_ rfl ⟨_, rfl, fun B W hW => HV.out B W hW, below_alloc _ _⟩
   simp [results, Tryd.results44, go_sem, negOf]
end Go.Proofs.YtfhgfclfhghlcaaDoor
