import Derived.Test.YtpjnglcojamfmaaDoorBack
import Derived.Test.YtpjnglcojamfmaaDoorAppendLimb
import Derived.Test.YtpjnglcojamfmaaDoorM1
import Derived.Laws.IdiomStrings
import Derived.RangeFuncCalls
namespace Go.Proofs.YtpjnglcojamfmaaDoor
open Go.RowKit Go.Shelf
attribute [local go_sem] Oper.semAt_some
/-- The digits of limbs, nine a limb, the highest first. -/
def padN (l : List Nat) : List Nat := l.reverse.flatMap (fun x => digK x 9)
def bytesOf (l : List Nat) : List UInt8 := l.map UInt8.ofNat
def strB (l : List UInt8) : ByteArray := ⟨l.toArray⟩
/-- The text of a sign and limbs, "" where it has too many digits. -/
def textD (l : List Nat) : List UInt8 := dropZ (bytesOf (padN l))
def textL (neg : Bool) (l : List Nat) : ByteArray := if neg then strB (45 :: textD l) else strB (textD l)
def textS (neg : Bool) (l : List Nat) : ByteArray := if 2500 < (textD l).length then strB [] else if neg then strB (45 :: textD l) else strB (textD l)
theorem block_lt {w : World} (h : LT w) : 3 < w.heap.size := World.block_lt_of_cell? w ⟨3, 0, none⟩ (h 0 (by decide))
theorem digK_length (x k : Nat) : (digK x k).length = k := by simp [digK]
theorem padN_length (l : List Nat) : (padN l).length = 9 * l.length := by
  unfold padN
  rw [List.length_flatMap]
  simp only [digK_length]
  rw [List.map_const', List.sum_replicate_nat]
  simp; omega
theorem padN_lt (l : List Nat) : ∀ x ∈ padN l, x < 256 := by
  intro x hx
  unfold padN at hx
  rw [List.mem_flatMap] at hx
  obtain ⟨y, _, hy⟩ := hx
  unfold digK at hy
  rw [List.mem_map] at hy
  obtain ⟨j, _, rfl⟩ := hy
  unfold dg
  omega
theorem padN_upto (l : List Nat) (h : okL l) : (upto (bk l h) l.length).flatMap (fun x : Lb => digK x.1.2 9) = padN l := by
  unfold padN
  have e : (upto (bk l h) l.length).map (fun x : Lb => x.1.2) = l.reverse := by
    apply List.ext_getElem
    · simp [upto]
    · intro i h1 h2
      simp only [upto, List.length_map, List.length_range] at h1
      simp only [upto, List.getElem_map, List.getElem_range, bk, List.getElem_reverse]
      rw [List.getD_eq_getElem?_getD, List.getElem?_eq_getElem (by omega)]
      rfl
  rw [← e, List.flatMap_map]
theorem cat_minus (t : List UInt8) : (⟨#[45]⟩ : ByteArray) ++ strB t = strB (45 :: t) := by
  apply ByteArray.ext
  simp [strB]
theorem strB_size (l : List UInt8) : (strB l).size = l.length := by simp [strB, ByteArray.size]
theorem conv_bytes (base : Nat) (W : World) (g n cap : Nat) (ns : List Nat) (h : W.ownsRow base 5 1 (.slice (some ⟨g, 0, none⟩) n cap) n (U8s ns)) (hlt : ∀ x ∈ ns, x < 256) (hn : ns.length = n) :
    (convert 87 9 (.slice (some ⟨g, 0, none⟩) n cap)).run Tryd.prog W = .ok (.string (strB (bytesOf ns))) W := by
  have hl : (bytesOf ns).length = n := by simp [bytesOf, hn]
  have := run_convert_bytes_back (P := Tryd.prog) W 87 9 5 ⟨g, 0, none⟩ cap (bytesOf ns) Tryd.underlying87 Tryd.underlying5 Tryd.underlying9 (fun j hj => by
    rw [hl] at hj
    have hj' : j < ns.length := by omega
    have := h.cells (g := g) rfl j (.int .u8 (ns[j] : Nat)) (by simp [U8s, List.getElem?_eq_getElem hj'])
    rw [this]
    have h2 := hlt ns[j] (List.getElem_mem _)
    simp only [bytesOf, List.getElem_map]
    congr 2
    rw [UInt8.toNat_ofNat_of_lt' (by simpa using h2)])
  rw [hl] at this
  exact this
set_option maxHeartbeats 400000 in
theorem isZero_any (n : Bool) (a : Option Addr) (l c : Nat) (w : World) :
    Calls Tryd.prog 18 #[.agg #[.bool n, .slice a l c]] w fun e w' => e = .returned (.bool ((l : Int) == 0)) ∧ w' = w.alloc (.cells #[.bool n, .slice a l c] 33) := by
  go_enter Tryd.func18, Tryd.ntmps18
  go_wp2
  go_ret
  exact ⟨rfl, rfl⟩
set_option maxHeartbeats 400000 in
theorem longText_zero (n : Bool) (a : Option Addr) (c : Nat) (w : World) :
    Calls Tryd.prog 66 #[.agg #[.bool n, .slice a 0 c]] w fun e w' => e = .returned (.string ⟨#[48]⟩) ∧ Below w.heap.size w w' := by
  go_enter Tryd.func66, Tryd.ntmps66
  go_wp2_with (go_at_call 18; refine (isZero_any _ _ _ _ _).mono ?_; rintro e w' ⟨rfl, rfl⟩)
  go_ret
  exact ⟨rfl, (below_alloc _ _).alloc (by simp) _⟩
set_option maxRecDepth 100000 in
set_option maxHeartbeats 2000000 in
theorem longText_pos (B : Nat) (neg : Bool) (v : Value) (l : List Nat) (w : World) (hI : IsL B w v l) (hne : 0 < l.length) (hlen : l.length ≤ 600) (hLT : LT w) :
    Calls Tryd.prog 66 #[.agg #[.bool neg, v]] w fun e w' => e = .returned (.string (textL neg l)) ∧ Below w.heap.size w w' := by
  obtain ⟨a, cap, rfl, hl, hcap, hok, hr⟩ := hI
  obtain ⟨i0, hinf, hz0, hz1, hz2⟩ := info_parts Tryd.info_u8
  have hz : ((l.length : Int) == 0) = false := by rw [beq_eq_false_iff_ne]; omega
  have HR : Hid (l = [] ∨ ∃ b off, a = some ⟨b, off, none⟩ ∧ B ≤ b ∧ b < w.heap.size ∧ ∀ i, i < l.length → w.cell? ⟨b, off + i, none⟩ = some (.int .u32 (l.getD i 0 : Nat))) := hr
  clear hr
  refine (callsIn_wide (n := 3)).1 ?_
  refine callsIn_of_wp_marks Tryd.func66 rfl trivial ?_ rfl
  simp only [Tryd.ntmps66, List.size_toArray, List.length_cons, List.length_nil, Nat.reduceAdd, Nat.reduceSub, Array.replicate_succ, Array.replicate_zero, List.push_toArray, List.append_toArray, List.nil_append, List.cons_append]
  gi_wp2_with (first
    | (refine ⟨trivial, ?_⟩; gi_at_call 18; refine (callsIn_wide.2 (isZero_any _ _ _ _ _)).mono ?_; rintro e w' ⟨rfl, rfl⟩)
    | (gi_at_make; refine wpListIn_make_own _ rfl _ _ 87 rfl (w.heap.size + 2) 5 i0 (.int .u8 0) 1 Tryd.underlying87 hinf hz0 hz1 .i64 .i64 _ (l.length * 9) rfl rfl ?m1 ?m2 ?m3 ?m4 ?_))
  case m1 => omega
  case m2 => rw [hz2]; omega
  case m3 => unfold maxLen; omega
  case m4 => simp
  intro w1 hown hgr
  have hsz : w.heap.size + 2 < w1.heap.size := by
    have := (hown.lt _ rfl).2
    exact this
  have hlt : w.heap.size < w1.heap.size := by omega
  have hx0 : w1.cell? ⟨w.heap.size, 0, none⟩ = some (.bool neg) := hgr.cell (a := ⟨w.heap.size, 0, none⟩) (by rw [World.cell?_alloc_past _ _ _ (by simp), World.cell?_alloc_at _ _ _ _ rfl]; rfl) (by simp)
  have hx1 : w1.cell? ⟨w.heap.size, 1, none⟩ = some (.slice a l.length cap) := hgr.cell (a := ⟨w.heap.size, 1, none⟩) (by rw [World.cell?_alloc_past _ _ _ (by simp), World.cell?_alloc_at _ _ _ _ rfl]; rfl) (by simp)
  have hbl : Below w.heap.size w w1 := (((Below.refl _ w).alloc (Nat.le_refl _) _).alloc (by simp) _).grown hgr (by simp; omega) (fun k h => by cases h)
  clear hgr
  gi_wp2_with (refine ⟨trivial, ?_⟩; gi_at_call 82; refine (back_in Fence.wide _ trivial rfl _ _ _ _).mono ?_; rintro e w' ⟨rfl, rfl⟩)
  have bP := Boxed.new w1 87 (.slice (some ⟨w.heap.size + 1 + 1, 0, none⟩) 0 (l.length * 9))
  have bN := Boxed.new (w1.alloc (.cells #[.slice (some ⟨w.heap.size + 1 + 1, 0, none⟩) 0 (l.length * 9)] 87)) 26 (.slice a l.length cap)
  rw [World.size_alloc] at bN
  have hB0 : Below w.heap.size w ((w1.alloc (.cells #[.slice (some ⟨w.heap.size + 1 + 1, 0, none⟩) 0 (l.length * 9)] 87)).alloc (.cells #[.slice a l.length cap] 26)) := (hbl.alloc (by omega) _).alloc (by simp; omega) _
  have hr0 : l = [] ∨ ∃ b off, a = some ⟨b, off, none⟩ ∧ b < w.heap.size ∧ ∀ i, i < l.length → ((w1.alloc (.cells #[.slice (some ⟨w.heap.size + 1 + 1, 0, none⟩) 0 (l.length * 9)] 87)).alloc (.cells #[.slice a l.length cap] 26)).cell? ⟨b, off + i, none⟩ = some (.int .u32 (l.getD i 0 : Nat)) := by
    rcases HR.out with h | ⟨b, off, e, _, hb, hc⟩
    · exact .inl h
    · exact .inr ⟨b, off, e, hb, fun i hi => (hB0.cell (p := ⟨b, off + i, none⟩) hb).trans (hc i hi)⟩
  have hcn : ((w1.alloc (.cells #[.slice (some ⟨w.heap.size + 1 + 1, 0, none⟩) 0 (l.length * 9)] 87)).alloc (.cells #[.slice a l.length cap] 26)).cell? ⟨w.heap.size, 0, none⟩ = some (.bool neg) := by
    rw [World.cell?_alloc_past _ _ _ (by simp; omega), World.cell?_alloc_past _ _ _ hlt]; exact hx0
  refine wpIn_rangeFunc_ownG rfl (by decide) (gf := 94) (lb := #[.pointer (some ⟨w1.heap.size + 1, 0, none⟩)]) rfl trivial (enters_of Tryd.func94 (by kernel_rfl) rfl)
    (back_stops Fence.wide 2 trivial rfl (by decide) (w1.heap.size + 1) w.heap.size _ l hok _ (by simp) (by simp; omega) bN.cell ⟨a, cap, rfl, hl, hcap, hr0⟩)
    KB_t (KB_b (by simp; omega) (by simp)) (Below.refl _ _) (fun _ => rfl)
    (fun pre W => ((∃ v, Boxed W w1.heap.size 87 v ∧ W.ownsRow (w.heap.size + 2) 5 1 v (9 * pre.length) (U8s (pre.flatMap (fun x : Lb => digK x.1.2 9))) ∧ v = .slice (some ⟨w.heap.size + 1 + 1, 0, none⟩) (9 * pre.length) (l.length * 9)) ∧ W.cell? ⟨w.heap.size, 0, none⟩ = some (.bool neg) ∧ w1.heap.size + 2 ≤ W.heap.size) ∧ Below w.heap.size w W)
    (fun _ _ _ => False)
    (OwnFrom.and (OwnFrom.and (Own.from (holdsRow_own (w.heap.size + 2) w1.heap.size 87 5 1 (fun pre : List Lb => 9 * pre.length) (fun pre => U8s (pre.flatMap (fun x : Lb => digK x.1.2 9))) (fun pre v => v = .slice (some ⟨w.heap.size + 1 + 1, 0, none⟩) (9 * pre.length) (l.length * 9))) _)
      (Own.from (fun s A B row hs hg hr => ⟨cell_kept hs.1 hg hr, Nat.le_trans hs.2 hg.size⟩) _)) (ownFrom_below (Nat.le_refl _) (by simp; omega)))
    (fun _ _ _ _ _ hs _ _ => hs)
    ⟨⟨⟨_, bP.alloc _, (hown.alloc _).alloc _, rfl⟩, hcn, by simp⟩, hB0⟩
    (fun x => { tmps := #[.agg #[.bool neg, .slice a l.length cap], .pointer (some ⟨w.heap.size, 0, none⟩), .string ⟨#[]⟩, .pointer (some ⟨w1.heap.size, 0, none⟩), undef, .int .u32 (x.1.2 : Nat), undef, .agg #[.bool neg, .slice a l.length cap], .bool false, .pointer (some ⟨w.heap.size, 1, none⟩), .slice a l.length cap, .int .i64 l.length, .int .i64 (l.length * 9), .slice (some ⟨w.heap.size + 1 + 1, 0, none⟩) 0 (l.length * 9), .pointer (some ⟨w.heap.size, 1, none⟩), .slice a l.length cap, .func (.func 94) #[] #[.pointer (some ⟨w1.heap.size + 1, 0, none⟩)], .int .i64 x.1.1, .int .u32 (x.1.2 : Nat), undef, undef, undef, undef, undef, undef, undef, undef, undef, undef, undef], defers := [] }) ?assign ?body ?done ?stop
  case assign =>
    intro lx x W K hK
    gi_wp2
    exact hK
  case body =>
    rintro lx pre x W ⟨⟨⟨v, hv, hrow, rfl⟩, hcc, hsW⟩, hB⟩ hpl
    have hx := x.2
    have hvc := hv.cell
    have hgl : 3 < w.heap.size := block_lt hLT
    have hLTW : LT W := fun j hj => (hB.cell (p := ⟨3, j, none⟩) hgl).trans (hLT j hj)
    have HLT : Hid (LT W) := hLTW
    have HROW : Hid (W.ownsRow (w.heap.size + 2) 5 1 (.slice (some ⟨w.heap.size + 1 + 1, 0, none⟩) (9 * pre.length) (l.length * 9)) (9 * pre.length) (U8s (pre.flatMap (fun x : Lb => digK x.1.2 9)))) := hrow
    have HV : Hid (Boxed W w1.heap.size 87 (.slice (some ⟨w.heap.size + 1 + 1, 0, none⟩) (9 * pre.length) (l.length * 9))) := hv
    clear hrow hv hLTW
    gi_wp2
    refine ⟨trivial, ?_⟩
    refine (CallsIn.inRound lx (callsIn_wide.2 (appendLimb_any (w.heap.size + 2) (w.heap.size + 1 + 1) (9 * pre.length) (l.length * 9) x.1.2 _ W HROW.out HLT.out (by omega) hx (by omega)))).mono ?_
    rintro e w2 ⟨rfl, hown2, hgr2⟩
    have hv2 := HV.out.kept hgr2 (HV.out.not_row (by decide) HROW.out)
    have hc2 := hv2.cell
    have hf2 := hv2.frozen
    have HV2 : Hid (Boxed w2 w1.heap.size 87 (.slice (some ⟨w.heap.size + 1 + 1, 0, none⟩) (9 * pre.length) (l.length * 9))) := hv2
    have HO2 : Hid (w2.ownsRow (w.heap.size + 2) 5 1 (.slice (some ⟨w.heap.size + 1 + 1, 0, none⟩) (9 * pre.length + 9) (l.length * 9)) (9 * pre.length + 9) (U8s (pre.flatMap (fun x : Lb => digK x.1.2 9)) ++ U8s (digK x.1.2 9))) := hown2
    have HG2 : Hid (W.grownBy w2 (some (w.heap.size + 1 + 1))) := hgr2
    clear hv2 hown2 hgr2
    gi_wp2
    have hlen1 : (pre ++ [x]).length = pre.length + 1 := by simp
    have hnine : 9 * (pre ++ [x]).length = 9 * pre.length + 9 := by rw [hlen1]; omega
    have hgrow3 := grownBy_setCell' w2 w1.heap.size (.slice (some ⟨w.heap.size + 1 + 1, 0, none⟩) (9 * pre.length + 9) (l.length * 9))
    refine ⟨KeepsOthers.from ((KeepsOthers.of_grownBy HG2.out fun j o ej hj => ?_).trans (KeepsOthers.setCell _ _ _)) _, ⟨?_, ?_⟩, ⟨⟨_, HV2.out.set _, ?_, ?_⟩, ?_, ?_⟩, ?_⟩
    · rcases HROW.out.2 with ⟨e, _⟩ | ⟨g, cap', cur, e, _, hgb, _⟩
      · cases e
      · simp only [Value.slice.injEq, Option.some.injEq, Addr.mk.injEq, and_true] at e
        obtain ⟨rfl, _⟩ := e
        cases ej
        rw [hgb] at hj; cases hj; rfl
    · exact (((Below.refl w.heap.size W).grown HG2.out hB.size (fun k e => by cases e; omega)).setCell (p := ⟨w1.heap.size, 0, none⟩) (by show w.heap.size ≤ w1.heap.size; omega) _)
    · have e1 : w2.heap[w1.heap.size + 1]? = W.heap[w1.heap.size + 1]? := HG2.out.block _ (by omega) (by simp; omega)
      have e2 := Below.heap_setCell w2 ⟨w1.heap.size, 0, none⟩ (.slice (some ⟨w.heap.size + 1 + 1, 0, none⟩) (9 * pre.length + 9) (l.length * 9)) (w1.heap.size + 1) (Nat.succ_ne_self _)
      exact World.cell?_of_block (e2.trans e1)
    · rw [hnine, List.flatMap_append]
      have := HO2.out.kept hgrow3 (.inr (HV2.out.not_row (by decide) HO2.out).symm)
      simpa [U8s] using this
    · rw [hnine]
    · exact (World.cell?_of_block ((Below.heap_setCell w2 ⟨w1.heap.size, 0, none⟩ _ w.heap.size (by show w.heap.size ≠ w1.heap.size; omega)).trans (HG2.out.block _ (by omega) (by simp; omega)))).trans hcc
    · have := HG2.out.size; simp; omega
    · exact (hB.grown HG2.out hB.size (fun k e => by cases e; omega)).setCell (p := ⟨w1.heap.size, 0, none⟩) (by show w.heap.size ≤ w1.heap.size; omega) _
  case done =>
    rintro D ys W hD rfl ⟨⟨⟨v, hv, hrow, rfl⟩, hcc, hsW⟩, hB⟩ hK
    rw [padN_upto l hok, upto_length] at hrow
    rw [upto_length] at hv
    have hvc := hv.cell
    have hconv := conv_bytes _ _ _ _ _ _ hrow (padN_lt l) (padN_length l)
    have hsize : (strB (bytesOf (padN l))).size ≤ maxLen := by rw [strB_size, bytesOf, List.length_map, padN_length]; unfold maxLen; omega
    have HD : Hid (dropB (strB (bytesOf (padN l))) = strB (textD l)) := rfl
    obtain ⟨d, hd⟩ : ∃ d, strB (textD l) = d := ⟨_, rfl⟩
    have HD2 : Hid (strB (textD l) = d) := hd
    have hdz : d.size ≤ 6000 := by
      rw [← hd, strB_size]
      have h1 : (textD l).length ≤ (bytesOf (padN l)).length := by unfold textD dropZ; exact (List.dropWhile_suffix _).length_le
      rw [bytesOf, List.length_map, padN_length] at h1
      omega
    have HEND : Hid (Below w.heap.size w (W.putObj D (.deferred none))) := hB.trans (belowK_b (w := w) (Nat.le_refl _) W D _ _ (by simp at hD; omega) hK rfl rfl)
    clear hrow hv hown bP bN hB0 hr0 hcn hd hbl hx0 hx1
    have hK2 : Hid (W.heap[D]? = some (.deferred (some []))) := hK
    clear hK hB
    have HS : Hid (d.size = (textD l).length) := by rw [← HD2.out]; exact strB_size _
    gi_wp2
    refine ⟨trivial, ?_⟩
    refine (callsIn_wide.2 (trimLeft_any _ _ hsize)).mono ?_
    rintro e w' ⟨rfl, hw'⟩
    subst w'
    rw [HD.out, HD2.out]
    cases neg
    · have HT : Hid (textL false l = d) := HD2.out
      gi_wp2
      refine ⟨by simp, .inl ⟨_, _, rfl, run_takeDeferred hK2.out, ?_⟩⟩
      exact ⟨_, results_tmp rfl _ _ _, by rw [HT.out]; rfl, HEND.out⟩
    · have HT : Hid (textL true l = strB (45 :: textD l)) := rfl
      have HC : Hid ((⟨#[45]⟩ : ByteArray) ++ d = strB (45 :: textD l)) := by rw [← HD2.out]; exact cat_minus _
      gi_wp2
      refine ⟨by simp, .inl ⟨_, _, rfl, run_takeDeferred hK2.out, ?_⟩⟩
      exact ⟨_, results_tmp rfl _ _ _, by rw [HT.out, ← HC.out]; rfl, HEND.out⟩
  case stop =>
    rintro D c pre W _ _ h _
    exact h.elim
theorem textD_no45 (l : List Nat) : ∀ c ∈ textD l, c ≠ 45 := by
  intro c hc
  have h1 : c ∈ bytesOf (padN l) := (List.dropWhile_suffix _).subset hc
  unfold bytesOf padN at h1
  rw [List.mem_map] at h1
  obtain ⟨x, hx, rfl⟩ := h1
  rw [List.mem_flatMap] at hx
  obtain ⟨y, _, hy⟩ := hx
  unfold digK at hy
  rw [List.mem_map] at hy
  obtain ⟨j, _, rfl⟩ := hy
  unfold dg
  intro h
  have h2 := congrArg UInt8.toNat h
  rw [UInt8.toNat_ofNat_of_lt' (by simp [UInt8.size]; omega)] at h2
  have : (45 : UInt8).toNat = 45 := rfl
  omega
theorem textL_dgs (neg : Bool) (l : List Nat) : (dgs (textL neg l)).size = (textD l).length := by
  cases neg
  · have h : isNeg (strB (textD l)) = false := by
      unfold isNeg
      rw [ByteArray.toList_eq]
      cases ht : textD l with
      | nil => rfl
      | cons c r =>
        have := textD_no45 l c (by rw [ht]; exact List.mem_cons_self ..)
        simp [strB, this]
    show (dgs (strB (textD l))).size = _
    rw [dgs_pos _ h, strB_size]
  · have h : isNeg (strB (45 :: textD l)) = true := by
      unfold isNeg
      rw [ByteArray.toList_eq]
      simp [strB]
    show (dgs (strB (45 :: textD l))).size = _
    rw [dgs_neg _ h, ByteArray.size_extract, strB_size]
    simp
set_option maxHeartbeats 400000 in
theorem text_zero (n : Bool) (a : Option Addr) (c : Nat) (w : World) :
    Calls Tryd.prog 46 #[.agg #[.bool n, .slice a 0 c]] w fun e w' => e = .returned (.string ⟨#[48]⟩) ∧ Below w.heap.size w w' := by
  have hd : dgs ⟨#[48]⟩ = ⟨#[48]⟩ := by kernel_rfl
  have HD : Hid (dgs ⟨#[48]⟩ = ⟨#[48]⟩) := hd
  clear hd
  go_enter Tryd.func46, Tryd.ntmps46
  go_wp2_with (first
    | (go_at_call 66; refine (longText_zero _ _ _ _).mono ?_; rintro e w1 ⟨rfl, hb⟩; have HB : Hid (Below w.heap.size w w1) := (below_alloc _ _).trans (hb.mono (by simp)); clear hb)
    | (go_at_call 62; refine (trim_any _ _ (by decide)).mono ?_; rintro e w2 ⟨rfl, hw⟩; subst w2; rw [HD.out]))
  go_ret
  exact ⟨rfl, HB.out⟩
set_option maxRecDepth 100000 in
set_option maxHeartbeats 2000000 in
theorem text_pos (B : Nat) (neg : Bool) (v : Value) (l : List Nat) (w : World) (hI : IsL B w v l) (hne : 0 < l.length) (hlen : l.length ≤ 600) (hLT : LT w) :
    Calls Tryd.prog 46 #[.agg #[.bool neg, v]] w fun e w' => e = .returned (.string (textS neg l)) ∧ Below w.heap.size w w' := by
  have HL : Hid (∀ o, Calls Tryd.prog 66 #[.agg #[.bool neg, v]] (w.alloc o) fun e w' => e = .returned (.string (textL neg l)) ∧ Below (w.alloc o).heap.size (w.alloc o) w') := fun o => longText_pos B neg v l _ (hI.below (below_alloc _ _)) hne hlen (fun j hj => ((below_alloc _ _).cell (p := ⟨3, j, none⟩) (block_lt hLT)).trans (hLT j hj))
  obtain ⟨a, cap, rfl, hl, hcap, hok, hr⟩ := hI
  have hs := textL_dgs neg l
  have h6 : (textD l).length ≤ 6000 := by
    have h1 : (textD l).length ≤ (bytesOf (padN l)).length := by unfold textD dropZ; exact (List.dropWhile_suffix _).length_le
    rw [bytesOf, List.length_map, padN_length] at h1
    omega
  have hz : (textL neg l).size ≤ maxLen := by
    have h2 : (textL neg l).size ≤ 6001 := by
      unfold textL; split <;> rw [strB_size]
      · simp; omega
      · omega
    unfold maxLen; omega
  have HTS : Hid (textS neg l = if 2500 < (textD l).length then strB [] else textL neg l) := rfl
  generalize textL neg l = T at hs hz HL HTS
  generalize (textD l).length = n at hs h6 HTS
  obtain ⟨D, hD⟩ : ∃ D, dgs T = D := ⟨_, rfl⟩
  rw [hD] at hs
  have HD : Hid (dgs T = D) := hD
  clear hD hr hok
  by_cases hbig : 2500 < n
  · have z : decide (2500 < (D.size : Int)) = true := by rw [decide_eq_true_iff]; omega
    have HT : Hid (textS neg l = strB []) := HTS.out.trans (if_pos hbig)
    go_enter Tryd.func46, Tryd.ntmps46
    go_wp2_with (first
      | (go_at_call 66; refine (HL.out _).mono ?_; rintro e w1 ⟨rfl, hb⟩; have HB : Hid (Below w.heap.size w w1) := (below_alloc _ _).trans (hb.mono (by simp)); clear hb)
      | (go_at_call 62; refine (trim_any _ _ hz).mono ?_; rintro e w2 ⟨rfl, hw⟩; subst w2; rw [HD.out]))
    go_ret
    exact ⟨by rw [HT.out]; rfl, HB.out⟩
  · have z : decide (2500 < (D.size : Int)) = false := by rw [decide_eq_false_iff_not]; omega
    have HT : Hid (textS neg l = T) := HTS.out.trans (if_neg hbig)
    go_enter Tryd.func46, Tryd.ntmps46
    go_wp2_with (first
      | (go_at_call 66; refine (HL.out _).mono ?_; rintro e w1 ⟨rfl, hb⟩; have HB : Hid (Below w.heap.size w w1) := (below_alloc _ _).trans (hb.mono (by simp)); clear hb)
      | (go_at_call 62; refine (trim_any _ _ hz).mono ?_; rintro e w2 ⟨rfl, hw⟩; subst w2; rw [HD.out]))
    go_ret
    exact ⟨by rw [HT.out]; rfl, HB.out⟩
end Go.Proofs.YtpjnglcojamfmaaDoor
