import Derived.Test.YtfhgfclfhghlcaaDoorOfImpl
import Derived.Test.YtfhgfclfhghlcaaDoorCmpSpec
namespace Go.Proofs.YtfhgfclfhghlcaaDoor
open Go.ChangeShapes Go.WideShapes Go.ChangeAt Go.RowKit
/-- The digits of a limb, the lowest first. -/
def revK (x k : Nat) : List Nat := (List.range k).map (fun j => 48 + x / 10 ^ j % 10)
def revD (l : List Nat) : List Nat := l.flatMap (fun x => revK x 9)
theorem revK_succ (x k : Nat) : revK x (k + 1) = revK x k ++ [48 + x / 10 ^ k % 10] := by simp [revK, List.range_succ]
theorem revK_length (x k : Nat) : (revK x k).length = k := by simp [revK]
theorem revD_length (l : List Nat) : (revD l).length = 9 * l.length := by
  unfold revD
  rw [List.length_flatMap]
  simp only [revK_length]
  rw [List.map_const', List.sum_replicate_nat]
  omega
theorem revD_snoc (l : List Nat) (x : Nat) : revD (l ++ [x]) = revD l ++ revK x 9 := by simp [revD]
theorem revK_rev (x : Nat) : (revK x 9).reverse = digK x 9 := by
  simp [revK, digK, dg, tens, List.range_succ]
theorem revD_rev (l : List Nat) : (revD l).reverse = padN l := by
  unfold revD padN
  induction l with
  | nil => rfl
  | cons x l ih => rw [List.flatMap_cons, List.reverse_append, ih, List.reverse_cons, List.flatMap_append, revK_rev]; simp
theorem revD_lt (l : List Nat) : ∀ x ∈ revD l, x < 256 := fun x hx => padN_lt l x (by rw [← revD_rev]; simpa using hx)
/-- Without the zeros at the end. -/
def cutE (l : List Nat) : List Nat := (l.reverse.dropWhile (· == 48))
theorem cutE_zero (D : List Nat) (j : Nat) (h : j < D.length) (h0 : D.getD j 0 = 48) : cutE (D.take (j + 1)) = cutE (D.take j) := by
  unfold cutE
  rw [List.take_succ_eq_append_getElem h, List.reverse_append]
  have : D[j] = 48 := by simpa [List.getD_eq_getElem?_getD, h] using h0
  simp [this]
theorem cutE_pos (D : List Nat) (j : Nat) (h : j < D.length) (h0 : D.getD j 0 ≠ 48) : cutE (D.take (j + 1)) = (D.take (j + 1)).reverse := by
  unfold cutE
  rw [List.take_succ_eq_append_getElem h, List.reverse_append]
  have : D[j] ≠ 48 := by simpa [List.getD_eq_getElem?_getD, h] using h0
  simp [this]
theorem bytes_dropZ (l : List Nat) (h : ∀ x ∈ l, x < 256) : dropZ (bytesOf l) = bytesOf (l.dropWhile (· == 48)) := by
  induction l with
  | nil => rfl
  | cons x l ih =>
    have hx := h x (by simp)
    have e : (UInt8.ofNat x == 48) = (x == 48) := by
      rw [Bool.eq_iff_iff, beq_iff_eq, beq_iff_eq]
      constructor
      · intro e
        have := congrArg UInt8.toNat e
        rw [UInt8.toNat_ofNat_of_lt' (by simpa using hx)] at this
        exact this
      · rintro rfl; rfl
    unfold dropZ bytesOf at *
    simp only [List.map_cons, List.dropWhile_cons, e]
    split
    · exact ih (fun y hy => h y (by simp [hy]))
    · rfl
theorem textD_cut (l : List Nat) : textD l = bytesOf (cutE (revD l)) := by
  unfold textD cutE
  rw [bytes_dropZ _ (padN_lt l), revD_rev]
def fullT (ng : Bool) (t : List Nat) : ByteArray := if t.length = 0 then strB [48] else if ng then strB (45 :: textD t) else strB (textD t)
theorem ngZ_of {B : Nat} {w : World} {z0 : Int} {zn : Bool} {za : Option Addr} {zl zc : Nat} {neg : Bool} {t : List Nat} (h : IsZ B w (.agg #[.int .i64 z0, .bool zn, .slice za zl zc]) neg t) : ngZ z0 zn zl = negOf neg t := by
  obtain ⟨h1, h2, h3⟩ := h
  rcases h3 with ⟨h3, v, e, p, c, rfl, _⟩ | ⟨h3, e⟩
  · simp at e
    obtain ⟨_, rfl, _, rfl, _⟩ := e
    unfold ngZ negOf
    have : 0 < t.length := by omega
    simp [this]
  · simp at e
    obtain ⟨rfl, rfl, _, rfl, _⟩ := e
    exact (negOf_small neg t h3 h1 h2).symm
def lenAt (s M q : Nat) : Nat := s + (M - q)
theorem lenAt_self (s M : Nat) : lenAt s M M = s := by unfold lenAt; omega
theorem lenAt_step (s M q : Nat) (h : q < M) : lenAt s M (q + 1) + 1 = lenAt s M q := by unfold lenAt; omega
def tailU (D : List Nat) (M q : Nat) : List Value := U8s ((D.take M).drop q).reverse
theorem tailU_self (D : List Nat) (M : Nat) : tailU D M M = [] := by unfold tailU; rw [List.drop_eq_nil_of_le (List.length_take_le _ _)]; rfl
theorem tailU_step (D : List Nat) (M q : Nat) (h : q < M) (hl : M ≤ D.length) : tailU D M q = tailU D M (q + 1) ++ [.int .u8 (D.getD q 0 : Nat)] := by
  unfold tailU
  have hql : q < (D.take M).length := by rw [List.length_take]; omega
  rw [List.drop_eq_getElem_cons hql, List.getElem_take, List.getD_eq_getElem?_getD, List.getElem?_eq_getElem (by omega), List.reverse_cons, U8s_snoc]
  rfl
theorem cell_one_new' (w : World) (v : Value) (t : TypeId) (g : Nat) (hg : w.heap.size = g) : ∀ j u, [v][j]? = some u → (w.alloc (.cells #[v] t)).cell? ((⟨g, 0, none⟩ : Addr).add j) = some u := by
  subst hg
  exact cell_one_new _ _ _
set_option maxRecDepth 100000 in
set_option maxHeartbeats 8000000 in
theorem l1Text_any (B : Nat) (z : Value) (neg : Bool) (t : List Nat) (w : World) (hz : IsZ B w z neg t) (hBw : B ≤ w.heap.size) (hlen : t.length ≤ 600) :
    Calls Tryd.prog 42 #[z] w fun e w' => e = .returned (.string (fullT (negOf neg t) t)) ∧ Below w.heap.size w w' := by
  obtain ⟨z0, zn, za, zl, zc, hzz⟩ := hz.shape
  subst hzz
  obtain ⟨i0, hinf, hz0, hz1, hz2⟩ := info_parts Tryd.info_u8
  obtain ⟨W0, hW0⟩ : ∃ W0, w.alloc (.cells #[.int .i64 z0, .bool zn, .slice za zl zc] 34) = W0 := ⟨_, rfl⟩
  have HW0 : Hid (w.alloc (.cells #[.int .i64 z0, .bool zn, .slice za zl zc] 34) = W0) := hW0
  have hb0 : Below w.heap.size w W0 := by rw [← hW0]; exact below_alloc _ _
  have hs0 : W0.heap.size = w.heap.size + 1 := by rw [← hW0]; simp
  have HZ : Hid (IsZ B W0 (.agg #[.int .i64 z0, .bool zn, .slice za zl zc]) neg t) := hz.below hb0
  have HB0 : Hid (Below w.heap.size w W0) := hb0
  have HX : Hid (∀ W, Below W0.heap.size W0 W → W.cell? ⟨w.heap.size, 0, none⟩ = some (.int .i64 z0) ∧ W.cell? ⟨w.heap.size, 1, none⟩ = some (.bool zn) ∧ W.cell? ⟨w.heap.size, 2, none⟩ = some (.slice za zl zc)) := fun W hW => by
    refine ⟨?_, ?_, ?_⟩
    · rw [hW.cell (p := ⟨w.heap.size, 0, none⟩) (by show w.heap.size < _; omega), ← hW0, World.cell?_alloc_at _ _ _ _ rfl]; rfl
    · rw [hW.cell (p := ⟨w.heap.size, 1, none⟩) (by show w.heap.size < _; omega), ← hW0, World.cell?_alloc_at _ _ _ _ rfl]; rfl
    · rw [hW.cell (p := ⟨w.heap.size, 2, none⟩) (by show w.heap.size < _; omega), ← hW0, World.cell?_alloc_at _ _ _ _ rfl]; rfl
  have HNG : Hid (ngZ z0 zn zl = negOf neg t) := ngZ_of hz
  clear hz hb0 hW0
  go_enter Tryd.func42, Tryd.ntmps42
  go_wp2_with fail
  rw [HW0.out]
  refine (l1Limbs_any B _ neg t _ HZ.out (by omega)).mono ?_
  rintro e w1 ⟨v, rfl, hv, hb1⟩
  obtain ⟨a, cap, rfl, hl, hcap, hok, hr⟩ := hv
  have hle1 : w.heap.size + 1 ≤ w1.heap.size := by have := hb1.size; omega
  have HC : Hid (∀ i, i < t.length → ∃ b off, a = some ⟨b, off, none⟩ ∧ b < w1.heap.size ∧ w1.cell? ⟨b, off + i, none⟩ = some (.int .u32 (t.getD i 0 : Nat))) := fun i hi => by
    rcases hr with rfl | ⟨b, off, rfl, _, hb, hc⟩
    · simp at hi
    · exact ⟨b, off, rfl, hb, hc i hi⟩
  have HB1 : Hid (Below W0.heap.size W0 w1) := hb1
  have HBW : Hid (Below w.heap.size w w1) := HB0.out.trans (hb1.mono (by omega))
  clear hr hb1
  by_cases h0 : t.length = 0
  · have HT : Hid (fullT (negOf neg t) t = strB [48]) := if_pos h0
    have zz : ((t.length : Int) == 0) = true := by rw [beq_iff_eq]; omega
    go_wp2
    go_ret
    exact ⟨by rw [HT.out]; rfl, HBW.out⟩
  · have zz : ((t.length : Int) == 0) = false := by rw [beq_eq_false_iff_ne]; omega
    have HT : Hid (fullT (negOf neg t) t = if negOf neg t then strB (45 :: textD t) else strB (textD t)) := if_neg h0
    go_wp2_with (at_make; refine wpList_make_own _ rfl _ _ 66 rfl w1.heap.size 5 i0 (.int .u8 0) 1 Tryd.underlying66 hinf hz0 hz1 .i64 .i64 _ (9 * t.length + 1) rfl rfl ?m1 ?m2 ?m3 ?m4 ?_)
    case m1 => omega
    case m2 => rw [hz2]; omega
    case m3 => unfold maxLen; omega
    case m4 => exact Nat.le_refl _
    intro w2 hown2 hgr2
    have hB2 : Below w1.heap.size w1 w2 := (Below.refl _ _).grown hgr2 (Nat.le_refl _) (fun k h => by cases h)
    clear hgr2
    go_wp2
    go_loopw [4, 23] (fun v i wr => ∃ j : Nat, j ≤ t.length ∧ i = .int .i64 j ∧ v = .slice (some ⟨w1.heap.size, 0, none⟩) (9 * j) (9 * t.length + 1) ∧
        wr.ownsRow w1.heap.size 5 1 (.slice (some ⟨w1.heap.size, 0, none⟩) (9 * j) (9 * t.length + 1)) (9 * j) (U8s (revD (t.take j))) ∧ Below w1.heap.size w1 wr) (fun _ i _ => t.length - (intOf i).toNat)
    case atStart => exact ⟨0, Nat.zero_le _, rfl, rfl, hown2, hB2⟩
    case round =>
      clear hown2 hB2
      obtain ⟨j, hj, rfl, rfl, hown, hB⟩ := hrel
      by_cases hlt : j < t.length
      · obtain ⟨b, off, rfl, hb, hcell⟩ := HC.out j hlt
        have hyb := getD_lt t hok j
        rw [← hB.cell (p := ⟨b, off + j, none⟩) hb] at hcell
        have HTK : Hid (t.take (j + 1) = t.take j ++ [t.getD j 0]) := by
          show t.take (j + 1) = t.take j ++ [t.getD j 0]
          rw [List.take_succ_eq_append_getElem hlt, List.getD_eq_getElem?_getD, List.getElem?_eq_getElem hlt]; rfl
        obtain ⟨y, hy⟩ : ∃ y, t.getD j 0 = y := ⟨_, rfl⟩
        rw [hy] at hcell hyb HTK
        obtain ⟨P, hP⟩ : ∃ P, revD (t.take j) = P := ⟨_, rfl⟩
        have HP : Hid (revD (t.take j) = P) := hP
        rw [hP] at hown
        clear hy hP
        go_wp2_with fail
        go_loopw [4, 6, 7] (fun v x kk wr => ∃ k : Nat, k ≤ 9 ∧ kk = .int .i64 k ∧ x = .int .u32 (y / 10 ^ k : Nat) ∧ v = .slice (some ⟨w1.heap.size, 0, none⟩) (9 * j + k) (9 * t.length + 1) ∧
            wr.ownsRow w1.heap.size 5 1 (.slice (some ⟨w1.heap.size, 0, none⟩) (9 * j + k) (9 * t.length + 1)) (9 * j + k) (U8s (P ++ revK y k)) ∧ Below w1.heap.size w1 wr) (fun _ _ kk _ => 9 - (intOf kk).toNat)
        case atStart => exact ⟨0, Nat.zero_le _, rfl, val_int (by simp), rfl, by simpa [revK] using hown, hB⟩
        case round =>
          clear hown hB hcell
          rename_i wr0
          obtain ⟨k, hk, rfl, rfl, rfl, hown, hB⟩ := hrel
          by_cases hk9 : k < 9
          · have hq := Nat.div_le_self y (10 ^ k)
            have HSU : Hid (y / 10 ^ (k + 1) = y / 10 ^ k / 10) := by show y / 10 ^ (k + 1) = y / 10 ^ k / 10; rw [Nat.pow_succ, Nat.div_div_eq_div_mul]
            have HRK := revK_succ y k
            obtain ⟨q, hqq⟩ : ∃ q, y / 10 ^ k = q := ⟨_, rfl⟩
            rw [hqq] at hq HSU HRK ⊢
            have HRK' : Hid (revK y (k + 1) = revK y k ++ [48 + q % 10]) := HRK
            clear hqq HRK
            go_wp2_with (at_builtin; refine wpList_append_fits _ rfl _ _ 66 rfl w1.heap.size 5 i0 1 Tryd.underlying66 hinf hz1 w1.heap.size (9 * j + k) (9 * t.length + 1) _ rfl (hown.alloc _) ⟨wr.heap.size, 0, none⟩ 1 1 [_] rfl rfl (cell_one_new _ _ _) ?c1 ?c2 ?_)
            case c1 => first | rfl | (intro u hu; simp at hu; subst hu; rfl)
            case c2 => omega
            intro w3 hown3 hgr3
            have hB3 : Below w1.heap.size w1 w3 := (hB.alloc hB.size _).grown hgr3 (by have := hB.size; simp; omega) (fun k e => by cases e; exact Nat.le_refl _)
            have HO3 : Hid (w3.ownsRow w1.heap.size 5 1 (.slice (some ⟨w1.heap.size, 0, none⟩) (9 * j + (k + 1)) (9 * t.length + 1)) (9 * j + (k + 1)) (U8s (P ++ revK y (k + 1)))) := by
              show w3.ownsRow w1.heap.size 5 1 (.slice (some ⟨w1.heap.size, 0, none⟩) (9 * j + (k + 1)) (9 * t.length + 1)) (9 * j + (k + 1)) (U8s (P ++ revK y (k + 1)))
              rw [HRK'.out, ← List.append_assoc, U8s_snoc]
              simpa [← Nat.add_assoc] using hown3
            clear hown3 hgr3 hown hB
            go_wp2
            go_roundw
            case rel => exact ⟨k + 1, by omega, by go_num, by rw [HSU.out]; exact val_int (by simp), rfl, HO3.out, hB3⟩
            case measure => simp [intOf]; omega
          · obtain rfl : k = 9 := by omega
            have HO4 : Hid (wr.ownsRow w1.heap.size 5 1 (.slice (some ⟨w1.heap.size, 0, none⟩) (9 * (j + 1)) (9 * t.length + 1)) (9 * (j + 1)) (U8s (revD (t.take (j + 1))))) := by
              show wr.ownsRow w1.heap.size 5 1 (.slice (some ⟨w1.heap.size, 0, none⟩) (9 * (j + 1)) (9 * t.length + 1)) (9 * (j + 1)) (U8s (revD (t.take (j + 1))))
              rw [HTK.out, revD_snoc, HP.out]
              exact hown
            clear hown
            go_wp2
            go_roundw
            case rel => exact ⟨j + 1, by omega, by go_num, rfl, HO4.out, hB⟩
            case measure => simp [intOf]; omega
      · obtain rfl : j = t.length := by omega
        generalize hWR : wr = WR at *
        clear hWR
        rw [List.take_length] at hown
        have HDL := revD_length t
        have HTX := textD_cut t
        have HLT2 := revD_lt t
        obtain ⟨D, hD⟩ : ∃ D, revD t = D := ⟨_, rfl⟩
        rw [hD] at hown HDL HTX HLT2
        have HDL' : Hid (D.length = 9 * t.length) := HDL
        have HTX' : Hid (textD t = bytesOf (cutE D)) := HTX
        have HLT' : Hid (∀ x ∈ D, x < 256) := HLT2
        have HOW : Hid (WR.ownsRow w1.heap.size 5 1 (.slice (some ⟨w1.heap.size, 0, none⟩) (9 * t.length) (9 * t.length + 1)) (9 * t.length) (U8s D)) := hown
        have HRC : Hid (∀ W : World, W.ownsRow w1.heap.size 5 1 (.slice (some ⟨w1.heap.size, 0, none⟩) (9 * t.length) (9 * t.length + 1)) (9 * t.length) (U8s D) → ∀ i, i < 9 * t.length → W.cell? ⟨w1.heap.size, i, none⟩ = some (.int .u8 (D.getD i 0 : Nat))) := fun W hW i hi => by
          have := hW.cells (g := w1.heap.size) rfl i (.int .u8 (D.getD i 0 : Nat)) (by rw [List.getElem?_map]; simp [List.getD_eq_getElem?_getD, show i < D.length by omega])
          by_cases i0 : i = 0
          · subst i0; simpa [Addr.add] using this
          · simpa [Addr.add, i0] using this
        have HBr : Hid (Below w1.heap.size w1 WR) := hB
        clear hown HDL HTX HLT2 hD hB
        go_wp2
        go_loop [8] (fun n => ∃ m : Nat, m ≤ 9 * t.length ∧ n = .int .i64 m ∧ cutE (D.take m) = cutE D) (fun n => (intOf n).toNat)
        case atStart => exact ⟨9 * t.length, Nat.le_refl _, val_int (by omega), by rw [← HDL'.out, List.take_length]⟩
        case round =>
          obtain ⟨m, hm, rfl, hp⟩ := hrel
          have HP : Hid (cutE (D.take m) = cutE D) := hp
          clear hp
          obtain ⟨ng, hng⟩ : ∃ ng, negOf neg t = ng := ⟨_, rfl⟩
          have HNGq : Hid (negOf neg t = ng) := hng
          clear hng
          cases m with
          | zero =>
            have HM : Hid (cutE D = (D.take 0).reverse) := HP.out.symm.trans rfl
            go_wp2_with (at_make; refine wpList_make_own _ rfl _ _ 66 rfl WR.heap.size 5 i0 (.int .u8 0) 1 Tryd.underlying66 hinf hz0 hz1 .i64 .i64 _ (0 + 1) rfl rfl ?am1 ?am2 ?am3 ?am4 ?_)
            try (case am1 => (omega))
            try (case am2 => (first | omega | (rw [hz2]; omega)))
            try (case am3 => (unfold maxLen; omega))
            try (case am4 => (exact Nat.le_refl _))
            intro w4 hown4 hgr4
            have hB4 : Below WR.heap.size WR w4 := (Below.refl _ _).grown hgr4 (Nat.le_refl _) (fun k h => by cases h)
            have hwr : w1.heap.size < WR.heap.size := (HOW.out.lt _ rfl).2
            have HB04 : Hid (Below W0.heap.size W0 w4) := HB1.out.trans ((HBr.out.mono HB1.out.size).trans (hB4.mono (by have := HB1.out.size; omega)))
            obtain ⟨c0, c1, c2⟩ := HX.out w4 HB04.out
            have HO4 : Hid (w4.ownsRow WR.heap.size 5 1 (.slice (some ⟨WR.heap.size, 0, none⟩) 0 (0 + 1)) 0 []) := hown4
            have HB4 : Hid (Below WR.heap.size WR w4) := hB4
            clear hgr4 hown4 hB4
            go_wp2_with fail
            refine (l1Neg_ex _ _ _ _ _ _).mono ?_
            rintro e w' ⟨rfl, hw'⟩
            subst w'
            rw [HNG.out, HNGq.out]
            cases ng
            · have HT2 : Hid (fullT (negOf neg t) t = strB (bytesOf (D.take (0)).reverse)) := by rw [HT.out, HNGq.out, HTX'.out, HM.out]; rfl
              have hO := HO4.out.alloc (.cells #[.int .i64 z0, .bool zn, .slice za zl zc] 34)
              have hBB : Below WR.heap.size WR (w4.alloc (.cells #[.int .i64 z0, .bool zn, .slice za zl zc] 34)) := HB4.out.alloc HB4.out.size _
              obtain ⟨W5, hW5⟩ : ∃ W5, w4.alloc (.cells #[.int .i64 z0, .bool zn, .slice za zl zc] 34) = W5 := ⟨_, rfl⟩
              rw [hW5] at hO hBB ⊢
              clear hW5
              go_wp2
              go_loopw [9, 10] (fun v i wr => ∃ q : Nat, q ≤ 0 ∧ i = .int .i64 (q - 1) ∧ v = .slice (some ⟨WR.heap.size, 0, none⟩) (lenAt 0 (0) q) (0 + 1) ∧
                  wr.ownsRow WR.heap.size 5 1 (.slice (some ⟨WR.heap.size, 0, none⟩) (lenAt 0 (0) q) (0 + 1)) (lenAt 0 (0) q) (tailU D (0) q) ∧ Below WR.heap.size WR wr) (fun _ i _ => (intOf i + 1).toNat)
              case atStart =>
                refine ⟨0, Nat.le_refl _, val_int (by omega), by rw [lenAt_self], ?_, hBB⟩
                rw [lenAt_self, tailU_self]
                simpa using hO
              case round =>
                clear hO hBB
                obtain ⟨q, hq, rfl, rfl, hO, hBB⟩ := hrel
                cases q with
                | zero =>
                  have e9 : tailU D (0) 0 = U8s ((D.take (0)).reverse) := by unfold tailU; rw [List.drop_zero]
                  rw [e9] at hO
                  have hconv := conv_bytes _ _ _ _ _ _ hO (by
                    intro x hx
                    have h := hx
                    
                    exact HLT'.out x (List.mem_of_mem_take (List.mem_reverse.1 h))) (by unfold lenAt; rw [List.length_reverse, List.length_take, HDL'.out]; omega)
                  have HEND : Hid (Below w.heap.size w wr) := HBW.out.trans ((HBr.out.mono HBW.out.size).trans (hBB.mono (by have := HBW.out.size; omega)))
                  clear hO hBB e9
                  go_wp2
                  go_ret
                  exact ⟨by rw [HT2.out]; rfl, HEND.out⟩
                | succ q => exact absurd hq (Nat.not_succ_le_zero q)
            · have HT2 : Hid (fullT (negOf neg t) t = strB (bytesOf ([45] ++ (D.take (0)).reverse))) := by rw [HT.out, HNGq.out, HTX'.out, HM.out]; rfl
              have hO5 := HO4.out.alloc (.cells #[.int .i64 z0, .bool zn, .slice za zl zc] 34)
              go_wp2_with (at_builtin; refine wpList_append_fits _ rfl _ _ 66 rfl WR.heap.size 5 i0 1 Tryd.underlying66 hinf hz1 WR.heap.size 0 (0 + 1) _ rfl (hO5.alloc _) ⟨w4.heap.size + 1, 0, none⟩ 1 1 [.int .u8 45] rfl rfl ?ad0 ?ad1 ?ad2 ?_)
              try (case ad0 => (exact cell_one_new' _ _ _ _ (by simp)))
              try (case ad1 => (first | rfl | (intro u hu; simp at hu; subst hu; rfl)))
              try (case ad2 => (omega))
              intro W5 hO hgr5
              have hBB : Below WR.heap.size WR W5 := ((HB4.out.alloc HB4.out.size _).alloc (by have := HB4.out.size; simp; omega) _).grown hgr5 (by have := HB4.out.size; simp; omega) (fun k e => by cases e; exact Nat.le_refl _)
              clear hgr5 hO5
              go_wp2
              go_loopw [9, 10] (fun v i wr => ∃ q : Nat, q ≤ 0 ∧ i = .int .i64 (q - 1) ∧ v = .slice (some ⟨WR.heap.size, 0, none⟩) (lenAt 1 (0) q) (0 + 1) ∧
                  wr.ownsRow WR.heap.size 5 1 (.slice (some ⟨WR.heap.size, 0, none⟩) (lenAt 1 (0) q) (0 + 1)) (lenAt 1 (0) q) ([.int .u8 45] ++ tailU D (0) q) ∧ Below WR.heap.size WR wr) (fun _ i _ => (intOf i + 1).toNat)
              case atStart =>
                refine ⟨0, Nat.le_refl _, val_int (by omega), by rw [lenAt_self], ?_, hBB⟩
                rw [lenAt_self, tailU_self]
                simpa using hO
              case round =>
                clear hO hBB
                obtain ⟨q, hq, rfl, rfl, hO, hBB⟩ := hrel
                cases q with
                | zero =>
                  have e9 : [.int .u8 45] ++ tailU D (0) 0 = U8s ([45] ++ (D.take (0)).reverse) := by unfold tailU; rw [List.drop_zero]; rfl
                  rw [e9] at hO
                  have hconv := conv_bytes _ _ _ _ _ _ hO (by
                    intro x hx
                    rcases List.mem_append.1 hx with h | h
                    · simp at h; omega
                    · exact HLT'.out x (List.mem_of_mem_take (List.mem_reverse.1 h))) (by unfold lenAt; rw [List.length_append, List.length_reverse, List.length_take, HDL'.out]; simp only [List.length_cons, List.length_nil]; omega)
                  have HEND : Hid (Below w.heap.size w wr) := HBW.out.trans ((HBr.out.mono HBW.out.size).trans (hBB.mono (by have := HBW.out.size; omega)))
                  clear hO hBB e9
                  go_wp2
                  go_ret
                  exact ⟨by rw [HT2.out]; rfl, HEND.out⟩
                | succ q => exact absurd hq (Nat.not_succ_le_zero q)
          | succ m =>
            have hcell := HRC.out WR HOW.out m (by omega)
            have hml : m < D.length := by rw [HDL'.out]; omega
            by_cases h48 : D.getD m 0 = 48
            · have HN : Hid (cutE (D.take m) = cutE D) := (cutE_zero D m hml h48).symm.trans HP.out
              rw [h48] at hcell
              clear h48
              go_wp2
              go_round
              case rel => exact ⟨m, by omega, val_int (by omega), HN.out⟩
              case measure => simp [intOf]
            · have HM : Hid (cutE D = (D.take (m + 1)).reverse) := HP.out.symm.trans (cutE_pos D m hml h48)
              obtain ⟨d0, hd0⟩ : ∃ d0, D.getD m 0 = d0 := ⟨_, rfl⟩
              rw [hd0] at hcell h48
              have h49 : ((d0 : Int) == 48) = false := by rw [beq_eq_false_iff_ne]; omega
              clear hd0 h48
              go_wp2_with (at_make; refine wpList_make_own _ rfl _ _ 66 rfl WR.heap.size 5 i0 (.int .u8 0) 1 Tryd.underlying66 hinf hz0 hz1 .i64 .i64 _ ((m + 1) + 1) rfl rfl ?bm1 ?bm2 ?bm3 ?bm4 ?_)
              try (case bm1 => (omega))
              try (case bm2 => (first | omega | (rw [hz2]; omega)))
              try (case bm3 => (unfold maxLen; omega))
              try (case bm4 => (exact Nat.le_refl _))
              intro w4 hown4 hgr4
              have hB4 : Below WR.heap.size WR w4 := (Below.refl _ _).grown hgr4 (Nat.le_refl _) (fun k h => by cases h)
              have hwr : w1.heap.size < WR.heap.size := (HOW.out.lt _ rfl).2
              have HB04 : Hid (Below W0.heap.size W0 w4) := HB1.out.trans ((HBr.out.mono HB1.out.size).trans (hB4.mono (by have := HB1.out.size; omega)))
              obtain ⟨c0, c1, c2⟩ := HX.out w4 HB04.out
              have HO4 : Hid (w4.ownsRow WR.heap.size 5 1 (.slice (some ⟨WR.heap.size, 0, none⟩) 0 ((m + 1) + 1)) 0 []) := hown4
              have HB4 : Hid (Below WR.heap.size WR w4) := hB4
              clear hgr4 hown4 hB4
              go_wp2_with fail
              refine (l1Neg_ex _ _ _ _ _ _).mono ?_
              rintro e w' ⟨rfl, hw'⟩
              subst w'
              rw [HNG.out, HNGq.out]
              cases ng
              · have HT2 : Hid (fullT (negOf neg t) t = strB (bytesOf (D.take ((m + 1))).reverse)) := by rw [HT.out, HNGq.out, HTX'.out, HM.out]; rfl
                have hO := HO4.out.alloc (.cells #[.int .i64 z0, .bool zn, .slice za zl zc] 34)
                have hBB : Below WR.heap.size WR (w4.alloc (.cells #[.int .i64 z0, .bool zn, .slice za zl zc] 34)) := HB4.out.alloc HB4.out.size _
                obtain ⟨W5, hW5⟩ : ∃ W5, w4.alloc (.cells #[.int .i64 z0, .bool zn, .slice za zl zc] 34) = W5 := ⟨_, rfl⟩
                rw [hW5] at hO hBB ⊢
                clear hW5
                go_wp2
                go_loopw [9, 10] (fun v i wr => ∃ q : Nat, q ≤ (m + 1) ∧ i = .int .i64 (q - 1) ∧ v = .slice (some ⟨WR.heap.size, 0, none⟩) (lenAt 0 ((m + 1)) q) ((m + 1) + 1) ∧
                    wr.ownsRow WR.heap.size 5 1 (.slice (some ⟨WR.heap.size, 0, none⟩) (lenAt 0 ((m + 1)) q) ((m + 1) + 1)) (lenAt 0 ((m + 1)) q) (tailU D ((m + 1)) q) ∧ Below WR.heap.size WR wr) (fun _ i _ => (intOf i + 1).toNat)
                case atStart =>
                  refine ⟨(m + 1), Nat.le_refl _, val_int (by omega), by rw [lenAt_self], ?_, hBB⟩
                  rw [lenAt_self, tailU_self]
                  simpa using hO
                case round =>
                  clear hO hBB
                  obtain ⟨q, hq, rfl, rfl, hO, hBB⟩ := hrel
                  cases q with
                  | zero =>
                    have e9 : tailU D ((m + 1)) 0 = U8s ((D.take ((m + 1))).reverse) := by unfold tailU; rw [List.drop_zero]
                    rw [e9] at hO
                    have hconv := conv_bytes _ _ _ _ _ _ hO (by
                      intro x hx
                      have h := hx
                      
                      exact HLT'.out x (List.mem_of_mem_take (List.mem_reverse.1 h))) (by unfold lenAt; rw [List.length_reverse, List.length_take, HDL'.out]; omega)
                    have HEND : Hid (Below w.heap.size w wr) := HBW.out.trans ((HBr.out.mono HBW.out.size).trans (hBB.mono (by have := HBW.out.size; omega)))
                    clear hO hBB e9
                    go_wp2
                    go_ret
                    exact ⟨by rw [HT2.out]; rfl, HEND.out⟩
                  | succ q =>
                    have hcl : wr.cell? ⟨w1.heap.size, q, none⟩ = some (.int .u8 (D.getD q 0 : Nat)) := (hBB.cell (p := ⟨w1.heap.size, q, none⟩) hwr).trans (HRC.out WR HOW.out q (by omega))
                    have HTU : Hid (tailU D ((m + 1)) q = tailU D ((m + 1)) (q + 1) ++ [.int .u8 (D.getD q 0 : Nat)]) := tailU_step D ((m + 1)) q (by omega) (by rw [HDL'.out]; omega)
                    have hlt8 : D.getD q 0 < 256 := by
                      rw [List.getD_eq_getElem?_getD, List.getElem?_eq_getElem (by rw [HDL'.out]; omega)]
                      exact HLT'.out _ (List.getElem_mem _)
                    obtain ⟨d, hd⟩ : ∃ d, D.getD q 0 = d := ⟨_, rfl⟩
                    rw [hd] at hcl HTU hlt8
                    clear hd
                    have hrow9 : q < 9 * t.length := by omega
                    have HNUM : Hid (lenAt 0 ((m + 1)) (q + 1) + 1 = lenAt 0 ((m + 1)) q) := lenAt_step _ _ _ (by omega)
                    have HCAP : Hid (lenAt 0 ((m + 1)) (q + 1) + 1 ≤ (m + 1) + 1) := by show lenAt 0 ((m + 1)) (q + 1) + 1 ≤ (m + 1) + 1; unfold lenAt; omega
                    go_wp2_with (at_builtin; refine wpList_append_fits _ rfl _ _ 66 rfl WR.heap.size 5 i0 1 Tryd.underlying66 hinf hz1 WR.heap.size (lenAt 0 ((m + 1)) (q + 1)) ((m + 1) + 1) _ rfl (hO.alloc _) ⟨wr.heap.size, 0, none⟩ 1 1 [_] rfl rfl (cell_one_new _ _ _) ?bfc1 ?bfc2 ?_)
                    try (case bfc1 => (first | rfl | (intro u hu; simp at hu; subst hu; rfl)))
                    try (case bfc2 => (exact HCAP.out))
                    intro w6 hO6 hgr6
                    have hB6 : Below WR.heap.size WR w6 := (hBB.alloc hBB.size _).grown hgr6 (by have := hBB.size; simp; omega) (fun k e => by cases e; exact Nat.le_refl _)
                    have HO6 : Hid (w6.ownsRow WR.heap.size 5 1 (.slice (some ⟨WR.heap.size, 0, none⟩) (lenAt 0 ((m + 1)) q) ((m + 1) + 1)) (lenAt 0 ((m + 1)) q) (tailU D ((m + 1)) q)) := by
                      show w6.ownsRow WR.heap.size 5 1 (.slice (some ⟨WR.heap.size, 0, none⟩) (lenAt 0 ((m + 1)) q) ((m + 1) + 1)) (lenAt 0 ((m + 1)) q) (tailU D ((m + 1)) q)
                      rw [HTU.out, ← HNUM.out]
                      simpa using hO6
                    clear hO6 hgr6 hO hBB hcl
                    go_wp2
                    go_roundw
                    case rel => exact ⟨q, by omega, val_int (by omega), by rw [HNUM.out], HO6.out, hB6⟩
                    case measure => simp [intOf]
              · have HT2 : Hid (fullT (negOf neg t) t = strB (bytesOf ([45] ++ (D.take ((m + 1))).reverse))) := by rw [HT.out, HNGq.out, HTX'.out, HM.out]; rfl
                have hO5 := HO4.out.alloc (.cells #[.int .i64 z0, .bool zn, .slice za zl zc] 34)
                go_wp2_with (at_builtin; refine wpList_append_fits _ rfl _ _ 66 rfl WR.heap.size 5 i0 1 Tryd.underlying66 hinf hz1 WR.heap.size 0 ((m + 1) + 1) _ rfl (hO5.alloc _) ⟨w4.heap.size + 1, 0, none⟩ 1 1 [.int .u8 45] rfl rfl ?bd0 ?bd1 ?bd2 ?_)
                try (case bd0 => (exact cell_one_new' _ _ _ _ (by simp)))
                try (case bd1 => (first | rfl | (intro u hu; simp at hu; subst hu; rfl)))
                try (case bd2 => (omega))
                intro W5 hO hgr5
                have hBB : Below WR.heap.size WR W5 := ((HB4.out.alloc HB4.out.size _).alloc (by have := HB4.out.size; simp; omega) _).grown hgr5 (by have := HB4.out.size; simp; omega) (fun k e => by cases e; exact Nat.le_refl _)
                clear hgr5 hO5
                go_wp2
                go_loopw [9, 10] (fun v i wr => ∃ q : Nat, q ≤ (m + 1) ∧ i = .int .i64 (q - 1) ∧ v = .slice (some ⟨WR.heap.size, 0, none⟩) (lenAt 1 ((m + 1)) q) ((m + 1) + 1) ∧
                    wr.ownsRow WR.heap.size 5 1 (.slice (some ⟨WR.heap.size, 0, none⟩) (lenAt 1 ((m + 1)) q) ((m + 1) + 1)) (lenAt 1 ((m + 1)) q) ([.int .u8 45] ++ tailU D ((m + 1)) q) ∧ Below WR.heap.size WR wr) (fun _ i _ => (intOf i + 1).toNat)
                case atStart =>
                  refine ⟨(m + 1), Nat.le_refl _, val_int (by omega), by rw [lenAt_self], ?_, hBB⟩
                  rw [lenAt_self, tailU_self]
                  simpa using hO
                case round =>
                  clear hO hBB
                  obtain ⟨q, hq, rfl, rfl, hO, hBB⟩ := hrel
                  cases q with
                  | zero =>
                    have e9 : [.int .u8 45] ++ tailU D ((m + 1)) 0 = U8s ([45] ++ (D.take ((m + 1))).reverse) := by unfold tailU; rw [List.drop_zero]; rfl
                    rw [e9] at hO
                    have hconv := conv_bytes _ _ _ _ _ _ hO (by
                      intro x hx
                      rcases List.mem_append.1 hx with h | h
                      · simp at h; omega
                      · exact HLT'.out x (List.mem_of_mem_take (List.mem_reverse.1 h))) (by unfold lenAt; rw [List.length_append, List.length_reverse, List.length_take, HDL'.out]; simp only [List.length_cons, List.length_nil]; omega)
                    have HEND : Hid (Below w.heap.size w wr) := HBW.out.trans ((HBr.out.mono HBW.out.size).trans (hBB.mono (by have := HBW.out.size; omega)))
                    clear hO hBB e9
                    go_wp2
                    go_ret
                    exact ⟨by rw [HT2.out]; rfl, HEND.out⟩
                  | succ q =>
                    have hcl : wr.cell? ⟨w1.heap.size, q, none⟩ = some (.int .u8 (D.getD q 0 : Nat)) := (hBB.cell (p := ⟨w1.heap.size, q, none⟩) hwr).trans (HRC.out WR HOW.out q (by omega))
                    have HTU : Hid (tailU D ((m + 1)) q = tailU D ((m + 1)) (q + 1) ++ [.int .u8 (D.getD q 0 : Nat)]) := tailU_step D ((m + 1)) q (by omega) (by rw [HDL'.out]; omega)
                    have hlt8 : D.getD q 0 < 256 := by
                      rw [List.getD_eq_getElem?_getD, List.getElem?_eq_getElem (by rw [HDL'.out]; omega)]
                      exact HLT'.out _ (List.getElem_mem _)
                    obtain ⟨d, hd⟩ : ∃ d, D.getD q 0 = d := ⟨_, rfl⟩
                    rw [hd] at hcl HTU hlt8
                    clear hd
                    have hrow9 : q < 9 * t.length := by omega
                    have HNUM : Hid (lenAt 1 ((m + 1)) (q + 1) + 1 = lenAt 1 ((m + 1)) q) := lenAt_step _ _ _ (by omega)
                    have HCAP : Hid (lenAt 1 ((m + 1)) (q + 1) + 1 ≤ (m + 1) + 1) := by show lenAt 1 ((m + 1)) (q + 1) + 1 ≤ (m + 1) + 1; unfold lenAt; omega
                    go_wp2_with (at_builtin; refine wpList_append_fits _ rfl _ _ 66 rfl WR.heap.size 5 i0 1 Tryd.underlying66 hinf hz1 WR.heap.size (lenAt 1 ((m + 1)) (q + 1)) ((m + 1) + 1) _ rfl (hO.alloc _) ⟨wr.heap.size, 0, none⟩ 1 1 [_] rfl rfl (cell_one_new _ _ _) ?btc1 ?btc2 ?_)
                    try (case btc1 => (first | rfl | (intro u hu; simp at hu; subst hu; rfl)))
                    try (case btc2 => (exact HCAP.out))
                    intro w6 hO6 hgr6
                    have hB6 : Below WR.heap.size WR w6 := (hBB.alloc hBB.size _).grown hgr6 (by have := hBB.size; simp; omega) (fun k e => by cases e; exact Nat.le_refl _)
                    have HO6 : Hid (w6.ownsRow WR.heap.size 5 1 (.slice (some ⟨WR.heap.size, 0, none⟩) (lenAt 1 ((m + 1)) q) ((m + 1) + 1)) (lenAt 1 ((m + 1)) q) ([.int .u8 45] ++ tailU D ((m + 1)) q)) := by
                      show w6.ownsRow WR.heap.size 5 1 (.slice (some ⟨WR.heap.size, 0, none⟩) (lenAt 1 ((m + 1)) q) ((m + 1) + 1)) (lenAt 1 ((m + 1)) q) ([.int .u8 45] ++ tailU D ((m + 1)) q)
                      rw [HTU.out, ← HNUM.out]
                      simpa using hO6
                    clear hO6 hgr6 hO hBB hcl
                    go_wp2
                    go_roundw
                    case rel => exact ⟨q, by omega, val_int (by omega), by rw [HNUM.out], HO6.out, hB6⟩
                    case measure => simp [intOf]
end Go.Proofs.YtfhgfclfhghlcaaDoor
