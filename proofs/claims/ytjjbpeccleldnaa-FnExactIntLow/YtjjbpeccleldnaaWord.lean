import Derived.Test.YtjjbpeccleldnaaBack
import Derived.Test.YtjjbpeccleldnaaLow
namespace Go.Proofs.Ytjjbpeccleldnaa
open Go.RowKit Go.Shelf
attribute [local go_sem] Oper.semAt_some
def maskI (k : Int) : Int := 18446744073709551615 / 2 ^ (64 - k).toNat
def lowI (neg : Bool) (n : Nat) (k : Int) : Int := bits .and .u64 (wordR neg n) (maskI k)
theorem mask_eq : ∀ m : Fin 64, 1 ≤ m.val → maskS (m.val : Int) = maskI (m.val : Int) := by decide +kernel
theorem and_ones (x : Int) (h0 : 0 ≤ x) (h1 : x < 18446744073709551616) : bits .and .u64 x 18446744073709551615 = x := by
  have e : BitVec.ofInt 64 18446744073709551615 = BitVec.allOnes 64 := by decide
  have e2 : bits .and .u64 x 18446744073709551615 = IntKind.u64.wrap ((BitVec.ofInt 64 x &&& BitVec.ofInt 64 18446744073709551615).toNat : Int) := rfl
  rw [e2, e, BitVec.and_allOnes, BitVec.toNat_ofInt, u64_wrap]
  omega
theorem wordR_range (neg : Bool) (n : Nat) : 0 ≤ wordR neg n ∧ wordR neg n < 18446744073709551616 := by
  unfold wordR m64
  simp only [u64_wrap]
  split <;> omega
theorem lowS_eq (neg : Bool) (n : Nat) (k : Int) (h1 : 1 ≤ k) (h2 : k ≤ 64) : lowS neg n k = lowI neg n k := by
  unfold lowS lowI
  by_cases h : k < 64
  · rw [if_pos h]
    obtain ⟨m, rfl⟩ := Int.eq_ofNat_of_zero_le (show 0 ≤ k by omega)
    rw [mask_eq ⟨m, by omega⟩ (by show 1 ≤ m; omega)]
  · rw [if_neg h]
    obtain rfl : k = 64 := by omega
    have e : maskI 64 = 18446744073709551615 := by decide
    rw [e, and_ones _ (wordR_range neg n).1 (wordR_range neg n).2]
def sumB : List Lb → Int := List.foldl (fun s x => IntKind.u64.wrap (IntKind.u64.wrap (s * 1000000000) + (x.1.2 : Nat))) 0
theorem sumB_snoc (pre : List Lb) (x : Lb) : sumB (pre ++ [x]) = IntKind.u64.wrap (IntKind.u64.wrap (sumB pre * 1000000000) + (x.1.2 : Nat)) := by simp [sumB]
theorem sumB_upto (l : List Nat) (h : okL l) (k : Nat) (hk : k ≤ l.length) : sumB (upto (bk l h) k) = m64 (vfrom l (l.length - k)) := by
  induction k with
  | zero => simp [upto, sumB, vfrom_end, m64_zero]
  | succ k ih =>
    rw [upto_succ, sumB_snoc, ih (by omega)]
    have h1 : l.length - k = l.length - (k + 1) + 1 := by omega
    have h2 : (bk l h k).1.2 = l.getD (l.length - (k + 1)) 0 := by simp only [bk]; rw [show l.length - 1 - k = l.length - (k + 1) by omega]
    rw [h2, h1, m64_step, vfrom_step l (l.length - (k + 1)) (by omega)]
set_option maxRecDepth 100000 in
set_option maxHeartbeats 2000000 in
theorem wordOf_in (F : Fence) (n : Nat) (hf : F.fn 19) (hf1 : F.fn 23) (hf2 : F.fn 25) (hro : F.round = none) (hn : 3 ≤ n) (B : Nat) (v : Value) (l : List Nat) (w : World) (hI : IsL B w v l) :
    CallsIn F n Try.prog 19 #[v] w fun e W' => e = .returned (.int .u64 (m64 (val l))) ∧ Below w.heap.size w W' := by
  have h1 : 1 ≤ n := by omega
  obtain ⟨a, cap, rfl, hl, hcap, hok, hr⟩ := hI
  refine callsIn_of_wp_marks Try.func19 rfl hf ?_ hro
  simp only [Try.ntmps19, List.size_toArray, List.length_cons, List.length_nil, Nat.reduceAdd, Nat.reduceSub, Array.replicate_succ, Array.replicate_zero, List.push_toArray, List.append_toArray, List.nil_append, List.cons_append]
  gi_wp2_with (gi_at_call 23; refine (back_in F (n - 1) hf1 hro _ _ _ _).mono ?_; rintro e w' ⟨rfl, rfl⟩)
  have bS := Boxed.new w 23 (.int .u64 0)
  have bN := Boxed.new (w.alloc (.cells #[.int .u64 0] 23)) 28 (.slice a l.length cap)
  rw [World.size_alloc] at bN
  have hB0 : Below w.heap.size w ((w.alloc (.cells #[.int .u64 0] 23)).alloc (.cells #[.slice a l.length cap] 28)) := ((Below.refl _ w).alloc (Nat.le_refl _) _).alloc (by simp) _
  have hr0 : l = [] ∨ ∃ b off, a = some ⟨b, off, none⟩ ∧ b < w.heap.size ∧ ∀ i, i < l.length → ((w.alloc (.cells #[.int .u64 0] 23)).alloc (.cells #[.slice a l.length cap] 28)).cell? ⟨b, off + i, none⟩ = some (.int .u32 (l.getD i 0 : Nat)) := by
    rcases hr with h | ⟨b, off, e, _, hb, hc⟩
    · exact .inl h
    · exact .inr ⟨b, off, e, hb, fun i hi => (hB0.cell (p := ⟨b, off + i, none⟩) hb).trans (hc i hi)⟩
  refine wpIn_rangeFunc_ownG hro h1 (gf := 25) (lb := #[.pointer (some ⟨w.heap.size + 1, 0, none⟩)]) rfl hf2 (enters_of Try.func25 (by kernel_rfl) rfl)
    (back_stops F (n - 1) hf2 hro (by omega) (w.heap.size + 1) w.heap.size _ l hok _ (by simp) (by simp; omega) bN.cell
      ⟨a, cap, rfl, hl, hcap, hr0⟩)
    KB_t (KB_b (by simp; omega) (by simp)) (Below.refl _ _) (fun _ => rfl)
    (fun pre W => (W.cell? ⟨w.heap.size, 0, none⟩ = some (.int .u64 (sumB pre)) ∧ W.frozen? ⟨w.heap.size, 0, none⟩ = false) ∧ Below w.heap.size w W)
    (fun _ _ _ => False)
    (OwnFrom.and (Own.from (fun s A B row hs hg hr => ⟨cell_kept hs.1 hg hr, (frozen_kept hs.1 hg hr).trans hs.2⟩) _) (ownFrom_below (Nat.le_refl _) (by simp; omega)))
    (fun _ _ _ _ _ hs _ _ => hs)
    ⟨⟨(bS.alloc _).cell, (bS.alloc _).frozen⟩, hB0⟩
    (fun x => { tmps := #[.slice a l.length cap, undef, .int .u64 0, .pointer (some ⟨w.heap.size, 0, none⟩), undef, .int .u32 (x.1.2 : Nat), .slice a l.length cap, .func (.func 25) #[] #[.pointer (some ⟨w.heap.size + 1, 0, none⟩)], .int .i64 x.1.1, .int .u32 (x.1.2 : Nat), undef, undef, undef, undef, undef, undef], defers := [] }) ?assign ?body ?done ?stop
  case assign =>
    intro lx x W K hK
    gi_wp2
    exact hK
  case body =>
    rintro lx pre x W ⟨⟨hc, hf⟩, hB⟩ _
    have hx := x.2
    gi_wp2
    exact ⟨(KeepsOthers.setCell _ _ _).from _, ⟨(Below.refl w.heap.size W).setCell (p := ⟨w.heap.size, 0, none⟩) (Nat.le_refl _) _, World.cell?_of_block (Below.heap_setCell W ⟨w.heap.size, 0, none⟩ _ (w.heap.size + 1) (Nat.succ_ne_self _))⟩,
      ⟨by rw [sumB_snoc]; exact World.cell?_setCell_same' _ _ _ (by rw [hc]; rfl), by rw [World.frozen?_setCell]; exact hf⟩, hB.setCell (p := ⟨w.heap.size, 0, none⟩) (Nat.le_refl _) _⟩
  case done =>
    rintro D ys W hD rfl ⟨⟨hc, _⟩, hB⟩ hK
    rw [sumB_upto l hok l.length (Nat.le_refl _), Nat.sub_self] at hc
    gi_wp2
    refine ⟨by simp, .inl ⟨_, _, rfl, run_takeDeferred hK, ?_⟩⟩
    exact ⟨_, results_tmp rfl _ _ _, rfl, hB.trans (belowK_b (w := w) (Nat.le_refl _) W D _ _ (by simp at hD; omega) hK rfl rfl)⟩
  case stop =>
    rintro D c pre W _ _ h _
    exact h.elim
theorem wordOf_any (B : Nat) (v : Value) (l : List Nat) (w : World) (h : IsL B w v l) :
    Calls Try.prog 19 #[v] w fun e w' => e = .returned (.int .u64 (m64 (val l))) ∧ Below w.heap.size w w' :=
  (callsIn_wide (n := 3)).1 (wordOf_in Fence.wide 3 trivial trivial trivial rfl (Nat.le_refl _) B v l w h)
set_option maxHeartbeats 400000 in
theorem lowBits_any (B : Nat) (neg : Bool) (v : Value) (l : List Nat) (k : Int) (w : World) (h : IsL B w v l) (hk1 : 1 ≤ k) (hk2 : k ≤ 64) :
    Calls Try.prog 13 #[.agg #[.bool neg, v], .int .i64 k] w fun e w' => e = .returned (.int .u64 (lowI neg (val l) k)) ∧ Below w.heap.size w w' := by
  have H1 : Hid (∀ o, IsL B (w.alloc o) v l) := fun o => h.below (below_alloc w o)
  obtain ⟨a, cap, rfl, _⟩ := h
  obtain ⟨q, hq⟩ : ∃ q, m64 (val l) = q := ⟨_, rfl⟩
  have HQ : Hid (m64 (val l) = q) := hq
  clear hq
  go_enter Try.func13, Try.ntmps13
  go_wp2_with fail
  refine (wordOf_any B _ l _ (H1.out _)).mono ?_
  rintro e w1 ⟨rfl, hb1⟩
  have hsz : ∀ o : Obj, (w.alloc o).heap.size = w.heap.size + 1 := fun o => by simp
  rw [hsz] at hb1
  have hc0 : w1.cell? ⟨w.heap.size, 0, none⟩ = some (.bool neg) := by
    rw [hb1.cell (p := ⟨w.heap.size, 0, none⟩) (Nat.lt_succ_self _), World.cell?_alloc_at _ _ _ _ rfl]; rfl
  have HB : Hid (Below w.heap.size w w1) := (below_alloc w _).trans (hb1.mono (Nat.le_succ _))
  rw [HQ.out]
  clear hb1 hsz
  cases neg
  all_goals
    go_wp2
    go_ret
    exact ⟨ret_u64 (by unfold lowI wordR maskI; rw [HQ.out]; rfl), HB.out⟩
end Go.Proofs.Ytjjbpeccleldnaa
