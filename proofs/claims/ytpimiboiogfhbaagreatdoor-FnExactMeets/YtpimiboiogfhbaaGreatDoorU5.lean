import Derived.Test.YtpimiboiogfhbaaGreatDoorMulZ
import Derived.Test.YtpimiboiogfhbaaGreatDoorMulLimbs
import Derived.Deep.QuietTactic
import Derived.BigQuiet
import Derived.WalkSmall
import Derived.Test.YtpimiboiogfhbaaGreatDoorSpecSum
import Derived.Test.YtpimiboiogfhbaaGreatDoorU1
import Derived.Test.YtpimiboiogfhbaaGreatDoorRatF
import Derived.Test.YtpimiboiogfhbaaGreatDoorTimes
import Derived.Deep.RegionHeld3
namespace Go.Proofs.YtpimiboiogfhbaaGreatDoor
open Go.ChangeShapes Go.WideShapes Go.ChangeAt Go.RowKit
theorem sg_mul (s t : Bool) (u v : Nat) : sg (s != t) (u * v) = sg s u * sg t v := by
  cases s <;> cases t <;> simp [sg, Int.mul_neg, Int.neg_mul]
theorem l1Make_from (B : Nat) (neg : Bool) (v : Value) (l : List Nat) (w W : World) (h : IsL B w v l) (hb : Below w.heap.size w W) :
    Calls Tryz.prog 42 #[.bool neg, v] W fun e w' => ∃ z, e = .returned z ∧ IsZ B w' z neg (trimL l) ∧ Below w.heap.size w w' := by
  refine (l1Make_any B neg v l W (h.below hb)).mono ?_
  rintro e we ⟨z, rfl, hmk, hbe⟩
  exact ⟨z, rfl, (hmk _ _ (h.below hb)).below hbe, hb.trans (hbe.mono hb.size)⟩
set_option maxRecDepth 100000 in
set_option maxHeartbeats 8000000 in
theorem l1Mul_big (B : Nat) (x y : Int) (xn yn : Bool) (pa : Option Addr) (la ca : Nat) (pb : Option Addr) (lb cb : Nat) (na nb : Bool) (a b : List Nat) (w : World) (hBw : B ≤ w.heap.size)
    (hz : ((la : Int) == 0) = false ∨ ((la : Int) == 0) = true ∧ ((lb : Int) == 0) = false ∨ ((la : Int) == 0) = true ∧ ((lb : Int) == 0) = true ∧ (-1000000000000000000 < x ∧ x < 1000000000000000000) ∧ (-1000000000000000000 < y ∧ y < 1000000000000000000) ∧ 0 < x.natAbs ∧ 999999999999999999 / x.natAbs < y.natAbs)
    (hza : IsZ B w (.agg #[.int .i64 x, .bool xn, .slice pa la ca]) na a) (hzb : IsZ B w (.agg #[.int .i64 y, .bool yn, .slice pb lb cb]) nb b) (s t : Bool) (ha : ngZ x xn la = s) (hb : ngZ y yn lb = t) (hla : a.length ≤ 100000) (hlb : b.length ≤ 100000) :
    Calls Tryz.prog 50 #[.agg #[.int .i64 x, .bool xn, .slice pa la ca], .agg #[.int .i64 y, .bool yn, .slice pb lb cb]] w fun e w' => ∃ z, e = .returned z ∧ IsN w.heap.size w' z (sg s (val a) * sg t (val b)) ∧ Below w.heap.size w w' := by
  obtain ⟨i0, hinf, hz0, hz1, hz2⟩ := info_parts Tryz.info_u32
  have HNA : Hid (ngZ x xn la = s) := ha
  have HNB : Hid (ngZ y yn lb = t) := hb
  have HLA : Hid (a.length ≤ 100000 ∧ b.length ≤ 100000) := ⟨hla, hlb⟩
  have HX := boxes_first w x xn pa la ca y yn pb lb cb 41
  obtain ⟨W0, hW0⟩ : ∃ W0, (((w.alloc (.cells #[.int .i64 x, .bool xn, .slice pa la ca] 41)).alloc (.cells #[.int .i64 y, .bool yn, .slice pb lb cb] 41)).alloc (.cells #[.int .i64 0, .bool false, .slice none 0 0] 41)) = W0 := ⟨_, rfl⟩
  have HW0 : Hid ((((w.alloc (.cells #[.int .i64 x, .bool xn, .slice pa la ca] 41)).alloc (.cells #[.int .i64 y, .bool yn, .slice pb lb cb] 41)).alloc (.cells #[.int .i64 0, .bool false, .slice none 0 0] 41)) = W0) := hW0
  have hB0 : Below w.heap.size w W0 := by rw [← hW0]; exact below_al (below_al (below_alloc _ _) _) _
  have HB0 : Hid (Below w.heap.size w W0) := hB0
  have hsz : W0.heap.size = w.heap.size + 3 := by rw [← hW0]; simp
  have hlt0 : w.heap.size < W0.heap.size := by omega
  have hlt1 : w.heap.size + 1 < W0.heap.size := by omega
  have hlt2 : w.heap.size + 2 < W0.heap.size := by omega
  rw [hW0] at HX
  have HS : Hid (W0.heap.size = w.heap.size + 3) := hsz
  have HBW : Hid (B ≤ w.heap.size) := hBw
  have HBX : Hid (∀ W, Below W0.heap.size W0 W → Boxes w.heap.size W x xn pa la ca y yn pb lb cb) := fun W hW => HX.below (by omega) hW
  have HZA : Hid (∀ W, Below W0.heap.size W0 W → IsZ B W (.agg #[.int .i64 x, .bool xn, .slice pa la ca]) na a) := fun W hW => (hza.below hB0).below hW
  have HZB : Hid (∀ W, Below W0.heap.size W0 W → IsZ B W (.agg #[.int .i64 y, .bool yn, .slice pb lb cb]) nb b) := fun W hW => (hzb.below hB0).below hW
  obtain ⟨a0, a1, a2, b0, b1, b2, r0, r1, r2, f0, f1, f2⟩ := HX
  clear hW0 hsz ha hb hza hzb hB0 hBw
  have HGO : Hid (∃ W1, Below W0.heap.size W0 W1 ∧ ((((la : Int) == 0) = false ∧ W0.alloc (.cells #[.int .i64 x, .bool xn, .slice pa la ca] 41) = W1) ∨ (((la : Int) == 0) = true ∧ ((lb : Int) == 0) = false ∧ (W0.alloc (.cells #[.int .i64 x, .bool xn, .slice pa la ca] 41)).alloc (.cells #[.int .i64 y, .bool yn, .slice pb lb cb] 41) = W1) ∨ (((la : Int) == 0) = true ∧ ((lb : Int) == 0) = true ∧ (W0.alloc (.cells #[.int .i64 x, .bool xn, .slice pa la ca] 41)).alloc (.cells #[.int .i64 y, .bool yn, .slice pb lb cb] 41) = W1 ∧ Hid (-1000000000000000000 < x ∧ x < 1000000000000000000) ∧ Hid (-1000000000000000000 < y ∧ y < 1000000000000000000) ∧ ∃ X Y : Int, Hid ((x.natAbs : Int) = X) ∧ Hid ((y.natAbs : Int) = Y) ∧ 0 < X ∧ X < 1000000000000000000 ∧ 0 ≤ Y ∧ Y < 1000000000000000000 ∧ (X == 0) = false ∧ decide (Y ≤ 999999999999999999 / X) = false))) := by
    rcases hz with h | ⟨h, h'⟩ | ⟨h, h', hx, hy, hx0, hxy⟩
    · exact ⟨_, below_alloc _ _, .inl ⟨h, rfl⟩⟩
    · exact ⟨_, below_al (below_alloc _ _) _, .inr (.inl ⟨h, h', rfl⟩)⟩
    · refine ⟨_, below_al (below_alloc _ _) _, .inr (.inr ⟨h, h', rfl, hx, hy, _, _, hide rfl, hide rfl, by omega, by omega, by omega, by omega, by rw [beq_eq_false_iff_ne]; omega, ?_⟩)⟩
      rw [decide_eq_false_iff_not, Int.not_le, Int.ediv_lt_iff_lt_mul (by omega)]
      have h3 := (Nat.div_lt_iff_lt_mul hx0).1 hxy
      have h4 : ((y.natAbs * x.natAbs : Nat) : Int) = (y.natAbs : Int) * (x.natAbs : Int) := Int.natCast_mul _ _
      rw [← h4]
      omega
  obtain ⟨W1, hBW1, hz1'⟩ := HGO.out
  have HBW1 : Hid (Below W0.heap.size W0 W1) := hBW1
  clear hz HGO hBW1
  go_enter Tryz.func50, Tryz.ntmps50
  go_wp2_with fail
  rw [HW0.out]
  refine (l1IsSmall_ex _ _ _ _ _ _).mono ?_
  rintro e w' ⟨rfl, rfl⟩
  rcases hz1' with ⟨hz, hW1⟩ | ⟨hz, hz', hW1⟩ | ⟨hz, hz', hW1, HXX, HYY, X, Y, HXE, HYE, q1, q2, q3, q4, q5, q6⟩
  all_goals
    have HW1 := hide hW1
    clear hW1
    go_wp2_with (first
      | (go_at_call 28; refine (l1IsSmall_ex _ _ _ _ _ _).mono ?_; rintro e w' ⟨rfl, rfl⟩)
      | (go_at_call_of 77 (Value.int IntKind.i64 x); refine (l1Abs64_any _ _ HXX.out.1 HXX.out.2).mono ?_; rintro e w' ⟨rfl, rfl⟩; rw [HXE.out])
      | (go_at_call_of 77 (Value.int IntKind.i64 y); refine (l1Abs64_any _ _ HYY.out.1 HYY.out.2).mono ?_; rintro e w' ⟨rfl, rfl⟩; rw [HYE.out]))
    rw [HW1.out]
    clear a0 a1 a2 b0 b1 b2 r0 r1 r2 f0 f1 f2
    obtain ⟨a0, a1, a2, b0, b1, b2, r0, r1, r2, f0, f1, f2⟩ := HBX.out W1 HBW1.out
    refine (l1Limbs_any B _ na a _ (HZA.out _ HBW1.out) (by have := HBW1.out.size; have := HS.out; have := HBW.out; omega)).mono ?_
    rintro e wa ⟨va, rfl, hva, hba⟩
    have HVA : Hid (IsL B wa va a) := hva
    have HBA : Hid (Below W0.heap.size W0 wa) := HBW1.out.trans (hba.mono HBW1.out.size)
    clear a0 a1 a2 b0 b1 b2 r0 r1 r2 f0 f1 f2 hva hba
    obtain ⟨a0, a1, a2, b0, b1, b2, r0, r1, r2, f0, f1, f2⟩ := HBX.out wa HBA.out
    go_wp2_with fail
    refine (l1Limbs_any B _ nb b _ (HZB.out _ HBA.out) (by have := HBA.out.size; have := HS.out; have := HBW.out; omega)).mono ?_
    rintro e wb ⟨vb, rfl, hvb, hbb⟩
    obtain ⟨qa, da, rfl, _⟩ := id HVA.out
    obtain ⟨qb, db, rfl, _⟩ := id hvb
    obtain ⟨_, _, _, haok, hca⟩ := (HVA.out.below hbb).cells
    obtain ⟨_, _, _, hbok, hcb⟩ := hvb.cells
    have HA : Hid (∀ i, i < a.length → ∃ b off, qa = some ⟨b, off, none⟩ ∧ b < wb.heap.size ∧ wb.cell? ⟨b, off + i, none⟩ = some (.int .u32 (a.getD i 0 : Nat))) := hca
    have HB : Hid (∀ i, i < b.length → ∃ c off, qb = some ⟨c, off, none⟩ ∧ c < wb.heap.size ∧ wb.cell? ⟨c, off + i, none⟩ = some (.int .u32 (b.getD i 0 : Nat))) := hcb
    have HBB : Hid (Below W0.heap.size W0 wb) := HBA.out.trans (hbb.mono HBA.out.size)
    clear hca hcb hvb hbb a0 a1 a2 b0 b1 b2 r0 r1 r2 f0 f1 f2 hlt0 hlt1 hlt2
    go_wp2_with (at_make; refine wpList_make_full _ rfl _ _ 39 rfl wb.heap.size 82 i0 (.int .u32 0) 1 Tryz.underlying39 hinf hz0 hz1 .i64 .i64 _ _ (a.length + b.length + 1) rfl rfl (by first | rfl | omega) (by first | rfl | omega) (by first | omega | (rw [hz2]; omega)) (by unfold maxLen; omega) (Nat.le_refl _) ?_)
    intro w1 hown hgr
    first | rw [made_zero] at hown | rw [made_zero'] at hown
    have hR : RowT w1 wb.heap.size (List.replicate (a.length + b.length + 1) 0) := (row_of_full hown).tail
    have hB1 : Below wb.heap.size wb w1 := (Below.refl _ _).grown hgr (Nat.le_refl _) (fun k h => by cases h)
    clear hown hgr
    go_wp2
    go_loopw [53] (fun iv wr => ∃ (i : Nat) (L : List Nat), i ≤ a.length ∧ L.length = a.length + b.length + 1 ∧ okL L ∧ RowT wr wb.heap.size L ∧ (∀ j, i + b.length ≤ j → L.getD j 0 = 0) ∧ iv = .int .i64 i ∧
        val L = val (a.take i) * val b ∧ Below wb.heap.size wb wr) (fun iv _ => a.length - (intOf iv).toNat)
    case atStart => exact ⟨0, _, by omega, by simp, fun x hx => by rw [List.eq_of_mem_replicate hx]; omega, hR, fun j hj => by simp [List.getD_eq_getElem?_getD, List.getElem?_replicate]; split <;> rfl, rfl, by simp [val_replicate, val], hB1⟩
    case round =>
      clear hR hB1
      obtain ⟨i, A, hi, hLl, hLok, hR, hzr, rfl, hval, hB⟩ := hrel
      by_cases hia : i < a.length
      · obtain ⟨ba, oa, rfl, hla', hca⟩ := HA.out i hia
        have hxb := okL_getD a haok i hia
        have HVT : Hid (val (a.take (i + 1)) = val (a.take i) + 1000000000 ^ i * a.getD i 0) := val_take_succ a i
        obtain ⟨f, hf⟩ : ∃ f, a.getD i 0 = f := ⟨_, rfl⟩
        rw [hf] at hca hxb HVT
        have HCA : Hid (∀ W, Below wb.heap.size wb W → W.cell? ⟨ba, oa + i, none⟩ = some (.int .u32 (f : Nat))) := fun W hW => (hW.cell (p := ⟨ba, oa + i, none⟩) hla').trans hca
        have HZR : Hid (∀ j, i + b.length ≤ j → A.getD j 0 = 0) := hzr
        have HV : Hid (val A = val (a.take i) * val b) := hval
        have HROW : Hid (okL A ∧ RowT wr wb.heap.size A ∧ Below wb.heap.size wb wr) := ⟨hLok, hR, hB⟩
        clear hR hzr hval hB hLok hf hca hla'
        go_wp2_with fail
        go_loopw [11, 58] (fun cv kv wk => ∃ (k c : Nat) (L : List Nat), k ≤ b.length ∧ c ≤ f ∧ L.length = A.length ∧ okL L ∧ RowT wk wb.heap.size L ∧ L.drop (i + k) = A.drop (i + k) ∧ cv = .int .u64 (c : Nat) ∧ kv = .int .i64 k ∧
            val L + 1000000000 ^ (i + k) * c = val A + 1000000000 ^ i * (f * val (b.take k)) ∧ Below wb.heap.size wb wk) (fun _ kv _ => b.length - (intOf kv).toNat)
        case atStart => exact ⟨0, 0, A, by omega, by omega, rfl, HROW.out.1, HROW.out.2.1, rfl, rfl, rfl, by simp [val], HROW.out.2.2⟩
        case round =>
          obtain ⟨k, c, L, hk, hcf, hLA, hLok, hR, hdr, rfl, rfl, hval, hB⟩ := hrel
          by_cases hib : k < b.length
          · have hcell := hR.cell (i + k) (by omega)
            have hxl := okL_getD L hLok (i + k) (by omega)
            obtain ⟨g, hx⟩ : ∃ g, L.getD (i + k) 0 = g := ⟨_, rfl⟩
            rw [hx] at hxl hcell
            have hca := HCA.out _ hB
            obtain ⟨bb, ob, rfl, hlb', hcb⟩ := HB.out k hib
            rw [← hB.cell (p := ⟨bb, ob + k, none⟩) hlb'] at hcb
            have hyb := okL_getD b hbok k hib
            obtain ⟨h, hy⟩ : ∃ h, b.getD k 0 = h := ⟨_, rfl⟩
            rw [hy] at hcb hyb
            obtain ⟨F, hF⟩ : ∃ F, f * h = F := ⟨_, rfl⟩
            have hFb : F ≤ f * 999999999 := by rw [← hF]; exact Nat.mul_le_mul_left f (by omega)
            have hvs := val_set L (i + k) ((c + F + g) % 1000000000) (by omega)
            rw [hx] at hvs
            have hst := scadd_step (1000000000 ^ (i + k)) _ _ _ _ c g F ((c + F + g) % 1000000000) ((c + F + g) / 1000000000) hval hvs (by omega)
            have HST : Hid (val (L.set (i + k) ((c + F + g) % 1000000000)) + 1000000000 ^ (i + (k + 1)) * ((c + F + g) / 1000000000) = val A + 1000000000 ^ i * (f * val (b.take (k + 1)))) := by
              show val (L.set (i + k) ((c + F + g) % 1000000000)) + 1000000000 ^ (i + (k + 1)) * ((c + F + g) / 1000000000) = val A + 1000000000 ^ i * (f * val (b.take (k + 1)))
              rw [val_take_succ, hy, scadd_sum, hF, ← Nat.add_assoc, Nat.pow_succ]
              exact hst
            have hfr := hR.frozen (i + k)
            have hRq : ∀ q, RowT (wr.drewN q) wb.heap.size L := fun q => hR
            have HR1 : Hid (∀ (q : Nat) (v : Int), v = (((c + F + g) % 1000000000 : Nat) : Int) → RowT ((wr.drewN q).setCell ⟨wb.heap.size, i + k, none⟩ (.int .u32 v)) wb.heap.size (L.set (i + k) ((c + F + g) % 1000000000))) := fun q v hv => by
              rw [hv]
              exact (hRq q).set (i + k) _ (by omega)
            have HB2 : Hid (∀ q u, Below wb.heap.size wb ((wr.drewN q).setCell ⟨wb.heap.size, i + k, none⟩ u)) := fun q u => (below_drewN hB q).setCell (Nat.le_refl _) u
            have HOK : Hid (okL (L.set (i + k) ((c + F + g) % 1000000000))) := okL_set L hLok (i + k) _ (Nat.mod_lt _ (by decide))
            have HDR : Hid ((L.set (i + k) ((c + F + g) % 1000000000)).drop (i + (k + 1)) = A.drop (i + (k + 1))) := drop_set_succ L A (i + k) _ hdr
            have HCF : Hid ((c + F + g) / 1000000000 ≤ f) := by
              show (c + F + g) / 1000000000 ≤ f
              omega
            clear hst hval hx hy hR hRq hB hLok hdr hvs
            obtain ⟨GG, hX⟩ : ∃ GG : Int, (g : Int) = GG := ⟨_, rfl⟩
            have HX : Hid ((g : Int) = GG) := hX
            have x1 : 0 ≤ GG := by omega
            have x2 : GG < 1000000000 := by omega
            rw [hX] at hcell
            obtain ⟨C, hC⟩ : ∃ C : Int, (c : Int) = C := ⟨_, rfl⟩
            have HC : Hid ((c : Int) = C) := hC
            have c1 : 0 ≤ C := by omega
            have c2 : C < 1000000000 := by omega
            rw [hC]
            obtain ⟨G, hG⟩ : ∃ G : Int, (f : Int) = G := ⟨_, rfl⟩
            rw [hG] at hca
            obtain ⟨H, hY⟩ : ∃ H : Int, (h : Int) = H := ⟨_, rfl⟩
            have hFI : (F : Int) = G * H := by rw [← hF, ← hG, ← hY]; rfl
            have HFI : Hid ((F : Int) = G * H) := hFI
            have g1 : 0 ≤ G * H := by rw [← hFI]; omega
            have g2 : G * H ≤ 999999999000000000 := by rw [← hFI]; omega
            have y1 : 0 ≤ H := by omega
            have y2 : H < 1000000000 := by omega
            have z1 : 0 ≤ G := by omega
            have z2 : G < 1000000000 := by omega
            rw [hY] at hcb
            clear hX hxl hC hG hY hFI hyb hF hFb hcf hxb
            have n1 : (i : Int) + (k : Int) < (a.length : Int) + (b.length : Int) + 1 := by omega
            have n2 : (i : Int) < (a.length : Int) := by omega
            have n3 : (k : Int) < (b.length : Int) := by omega
            go_wp2
            go_quiet (fail)
            go_wp2
            go_roundw
            case rel =>
              refine ⟨k + 1, (c + F + g) / 1000000000, L.set (i + k) ((c + F + g) % 1000000000), by omega, HCF.out, by simp [hLA], HOK.out, ?_, HDR.out, ?_, by go_num, HST.out, HB2.out _ _⟩
              · exact HR1.out _ _ (by have := HX.out; have := HC.out; have := HFI.out; omega)
              · congr 1; have := HX.out; have := HC.out; have := HFI.out; omega
            case measure => simp [intOf]; omega
          · obtain rfl : k = b.length := by omega
            rw [List.take_of_length_le (Nat.le_refl _)] at hval
            have hcell := hR.cell (i + b.length) (by omega)
            have hfr := hR.frozen (i + b.length)
            have h0 : L.getD (i + b.length) 0 = 0 := (getD_of_drop L A (i + b.length) _ hdr (Nat.le_refl _)).trans (HZR.out _ (Nat.le_refl _))
            have hvs := val_set L (i + b.length) c (by omega)
            rw [h0] at hvs
            have HV4 : Hid (val (L.set (i + b.length) c) = val (a.take (i + 1)) * val b) := by
              show val (L.set (i + b.length) c) = val (a.take (i + 1)) * val b
              rw [HVT.out]
              exact mul_step _ _ _ _ _ _ _ c f HV.out hval hvs
            have HR4 : Hid (RowT (wr.setCell ⟨wb.heap.size, i + b.length, none⟩ (.int .u32 (c : Nat))) wb.heap.size (L.set (i + b.length) c)) := hR.set _ _ (by omega)
            have HB4 : Hid (Below wb.heap.size wb (wr.setCell ⟨wb.heap.size, i + b.length, none⟩ (.int .u32 (c : Nat)))) := hB.setCell (Nat.le_refl _) _
            have HOK4 : Hid (okL (L.set (i + b.length) c) ∧ (L.set (i + b.length) c).length = a.length + b.length + 1) := ⟨okL_set L hLok _ _ (by omega), by simp; omega⟩
            have HZ4 : Hid (∀ j, i + 1 + b.length ≤ j → (L.set (i + b.length) c).getD j 0 = 0) := fun j hj => by
              rw [getD_set_ne _ _ _ _ (by omega), getD_of_drop L A (i + b.length) j hdr (by omega)]
              exact HZR.out j (by omega)
            have hcc : c < 1000000000 := by omega
            clear hR hLA hLok hdr hcf hval hB h0 hvs
            go_wp2
            go_roundw
            case rel => exact ⟨i + 1, L.set (i + b.length) c, by omega, HOK4.out.2, HOK4.out.1, HR4.out, HZ4.out, by go_num, HV4.out, HB4.out⟩
            case measure => simp [intOf]; omega
      · obtain rfl : i = a.length := by omega
        rw [List.take_of_length_le (Nat.le_refl _)] at hval
        have HI : Hid (IsL wb.heap.size wr (.slice (some ⟨wb.heap.size, 0, none⟩) (a.length + b.length + 1) (a.length + b.length + 1)) A) := by
          have h := hR.isL (B := wb.heap.size) (cap := a.length + b.length + 1) (Nat.le_refl _) hLok (by omega) (by unfold maxLen; omega)
          rw [hLl] at h
          exact h
        have HV : Hid (val A = val a * val b) := hval
        have HKK : Hid (Below W0.heap.size W0 wr) := HBB.out.trans (hB.mono HBB.out.size)
        have HSW : Hid (w.heap.size + 3 ≤ wb.heap.size ∧ wb.heap.size ≤ wr.heap.size) := ⟨by have := HBB.out.size; have := HS.out; omega, hB.size⟩
        clear hval hR hB hLok hzr
        obtain ⟨a0, a1, a2, b0, b1, b2, r0, r1, r2, f0, f1, f2⟩ := HBX.out wr HKK.out
        have hs0 : w.heap.size < wr.heap.size := by have := HSW.out; omega
        have hs1 : w.heap.size + 1 < wr.heap.size := by have := HSW.out; omega
        have hs2 : w.heap.size + 2 < wr.heap.size := by have := HSW.out; omega
        go_wp2_with fail
        go_region_with (first
          | (go_at_call_of 69 (Value.int IntKind.i64 x); refine (l1Neg_ex _ _ _ _ _ _).mono ?_; rintro e w' ⟨rfl, rfl⟩; rw [HNA.out])
          | (go_at_call_of 69 (Value.int IntKind.i64 y); refine (l1Neg_ex _ _ _ _ _ _).mono ?_; rintro e w' ⟨rfl, rfl⟩; rw [HNB.out])
          | (go_at_call 42; refine (l1Make_from _ _ _ A wr _ HI.out ?_).mono ?_
             · first | exact (below_al (below_alloc _ _) _).drew | exact below_al (below_alloc _ _) _
             rintro e we ⟨z, rfl, hmk, hbe⟩
             have hN : IsN (w.heap.size + 3) we z (sg s (val a) * sg t (val b)) := ⟨s != t, trimL A, hmk.mono HSW.out.1, by rw [val_trimL, HV.out, sg_mul]⟩
             have HN : Hid (IsN (w.heap.size + 3) we z (sg s (val a) * sg t (val b))) := hN
             have HEE : Hid (Below W0.heap.size W0 we) := HKK.out.trans (hbe.mono HKK.out.size)
             have HBE : Hid (Below w.heap.size w we) := HB0.out.trans (HEE.out.mono (by have := HS.out; omega))
             clear a0 a1 a2 b0 b1 b2 r0 r1 r2 f0 f1 f2
             obtain ⟨a0, a1, a2, b0, b1, b2, r0, r1, r2, f0, f1, f2⟩ := HBX.out we HEE.out
             obtain ⟨z0, zn, za, zl, zc, hzz⟩ := hN.shape
             subst hzz
             clear hmk hbe hN))
        all_goals
          try simp only [List.getElem_toArray, List.getElem_cons_succ, List.getElem_cons_zero, Act.put, List.setIfInBounds_toArray, List.set_cons_succ, List.set_cons_zero]
          go_wp2
          refine bodyPost_ret ?_ rfl ⟨_, rfl, (((HN.out.setCell _ _ (by simp)).setCell _ _ (by simp)).setCell _ _ (by simp)).mono (by omega), ((HBE.out.setCell (by simp; omega) _).setCell (by simp; omega) _).setCell (by simp; omega) _⟩
          simp [results, Tryz.results50, go_sem, r0, r1, r2]
end Go.Proofs.YtpimiboiogfhbaaGreatDoor
namespace Go.Proofs.YtpimiboiogfhbaaGreatDoor
open Go.ChangeShapes Go.WideShapes Go.ChangeAt Go.RowKit
theorem l1Mul_any (B : Nat) (za zb : Value) (na nb : Bool) (a b : List Nat) (w : World) (hBw : B ≤ w.heap.size) (hza : IsZ B w za na a) (hzb : IsZ B w zb nb b) (hla : a.length ≤ 100000) (hlb : b.length ≤ 100000) :
    Calls Tryz.prog 50 #[za, zb] w fun e w' => ∃ z, e = .returned z ∧ IsN w.heap.size w' z (sg na (val a) * sg nb (val b)) ∧ Below w.heap.size w w' := by
  have hoa := hza.1; have hob := hzb.1
  obtain ⟨x, xn, pa, la, ca, rfl, fa, ga⟩ := hza.form2
  obtain ⟨y, yn, pb, lb, cb, rfl, fb, gb⟩ := hzb.form2
  by_cases h0 : la = 0 ∧ lb = 0
  · have g1 := ga h0.1
    have g2 := gb h0.2
    have l1 := sg_lt na a hoa g1.1
    have l2 := sg_lt nb b hob g2.1
    by_cases hs : (sg na (val a)).natAbs = 0 ∨ (sg na (val a)).natAbs ≠ 0 ∧ (sg nb (val b)).natAbs ≤ 999999999999999999 / (sg na (val a)).natAbs
    · rw [g1.2, g2.2]
      exact l1Mul_small _ _ w l1.1 l1.2 l2.1 l2.2 hs
    · have e1 := g1.2
      have e2 := g2.2
      simp only [Value.agg.injEq, Array.mk.injEq, List.cons.injEq, Value.int.injEq, true_and, Value.bool.injEq, Value.slice.injEq, and_true] at e1 e2
      obtain ⟨rfl, _⟩ := e1
      obtain ⟨rfl, _⟩ := e2
      have hp : 0 < (sg na (val a)).natAbs := by
        apply Nat.pos_of_ne_zero
        intro h
        exact hs (.inl h)
      have hz : ((la : Int) == 0) = true ∧ ((lb : Int) == 0) = true ∧ (-1000000000000000000 < sg na (val a) ∧ sg na (val a) < 1000000000000000000) ∧ (-1000000000000000000 < sg nb (val b) ∧ sg nb (val b) < 1000000000000000000) ∧ 0 < (sg na (val a)).natAbs ∧ 999999999999999999 / (sg na (val a)).natAbs < (sg nb (val b)).natAbs := by
        refine ⟨by rw [beq_iff_eq]; omega, by rw [beq_iff_eq]; omega, l1, l2, hp, ?_⟩
        apply Nat.lt_of_not_le
        intro h
        exact hs (.inr ⟨by omega, h⟩)
      have h := l1Mul_big B _ _ xn yn pa la ca pb lb cb na nb a b w hBw (.inr (.inr hz)) hza hzb _ _ fa fb hla hlb
      rw [sg_negOf, sg_negOf] at h
      exact h
  have hz : ((la : Int) == 0) = false ∨ (((la : Int) == 0) = true ∧ ((lb : Int) == 0) = false) := by
    by_cases h : la = 0
    · exact .inr ⟨by rw [beq_iff_eq]; omega, by rw [beq_eq_false_iff_ne]; omega⟩
    · exact .inl (by rw [beq_eq_false_iff_ne]; omega)
  have h := l1Mul_big B x y xn yn pa la ca pb lb cb na nb a b w hBw (hz.elim .inl (fun h => .inr (.inl h))) hza hzb _ _ fa fb hla hlb
  rw [sg_negOf, sg_negOf] at h
  exact h
end Go.Proofs.YtpimiboiogfhbaaGreatDoor
namespace Go.Proofs.YtpimiboiogfhbaaGreatDoor
open Go.ChangeShapes Go.WideShapes Go.ChangeAt Go.RowKit
theorem IsI.setC {B : Nat} {w : World} {z : Value} {x : Int} {n : Nat} (h : IsI B w z x n) (p : Addr) (u : Value) (hp : p.block < B) : IsI B (w.setCell p u) z x n := by
  obtain ⟨neg, v, t, e, hL, r⟩ := h
  exact ⟨neg, v, t, e, hL.setCell p u hp, r⟩
theorem IsQR.setC {B : Nat} {w : World} {z : Value} {x y : Int} {n : Nat} (h : IsQR B w z x y n) (p : Addr) (u : Value) (hp : p.block < B) : IsQR B (w.setCell p u) z x y n := by
  obtain ⟨s1, v1, s2, v2, e, h1, h2⟩ := h
  exact ⟨s1, v1, s2, v2, e, h1.setC p u hp, h2.setC p u hp⟩
theorem ReadR.setC {B : Nat} {w : World} {s : ByteArray} {k : Option Nat} {z : Value} {ok : Bool} (h : ReadR B w s k z ok) (p : Addr) (u : Value) (hp : p.block < B) : ReadR B (w.setCell p u) s k z ok :=
  ⟨h.1, h.2.1, fun ho => by obtain ⟨x, y, hv, hq⟩ := h.2.2 ho; exact ⟨x, y, hv, hq.setC p u hp⟩⟩
theorem ReadR.below {B : Nat} {w w' : World} {s : ByteArray} {k : Option Nat} {z : Value} {ok : Bool} (h : ReadR B w s k z ok) (hb : Below w.heap.size w w') : ReadR B w' s k z ok :=
  ⟨h.1, h.2.1, fun ho => by obtain ⟨x, y, hv, hq⟩ := h.2.2 ho; exact ⟨x, y, hv, hq.below hb⟩⟩
theorem ReadR.mono {B B' : Nat} {w : World} {s : ByteArray} {k : Option Nat} {z : Value} {ok : Bool} (h : ReadR B w s k z ok) (hb : B' ≤ B) : ReadR B' w s k z ok :=
  ⟨h.1, h.2.1, fun ho => by obtain ⟨x, y, hv, hq⟩ := h.2.2 ho; exact ⟨x, y, hv, hq.mono hb (Nat.le_refl _)⟩⟩
theorem ReadR.drew {B : Nat} {w : World} {s : ByteArray} {k : Option Nat} {z : Value} {ok : Bool} (h : ReadR B w s k z ok) : ReadR B w.drew s k z ok := h.below (Below.refl _ w).drew
theorem ReadR.put {B : Nat} {w : World} {s : ByteArray} {k : Option Nat} {z : Value} {ok : Bool} (h : ReadR B w s k z ok) (g : Nat) (hg : g < B) (u0 u1 u2 u3 : Value) : ReadR B ((((w.setCell ⟨g, 0, none⟩ u0).setCell ⟨g, 1, none⟩ u1).setCell ⟨g, 2, none⟩ u2).setCell ⟨g, 3, none⟩ u3) s k z ok :=
  (((h.setC _ _ hg).setC _ _ hg).setC _ _ hg).setC _ _ hg
theorem below_put {N : Nat} {w W : World} (h : Below N w W) (g : Nat) (hg : N ≤ g) (u0 u1 u2 u3 : Value) : Below N w ((((W.setCell ⟨g, 0, none⟩ u0).setCell ⟨g, 1, none⟩ u1).setCell ⟨g, 2, none⟩ u2).setCell ⟨g, 3, none⟩ u3) :=
  (((h.setCell hg _).setCell hg _).setCell hg _).setCell hg _
end Go.Proofs.YtpimiboiogfhbaaGreatDoor
namespace Go.Proofs.YtpimiboiogfhbaaGreatDoor
open Go.ChangeShapes Go.WideShapes Go.ChangeAt Go.RowKit
/-- Below so many limbs. -/
def lb (k : Nat) : Nat := 1000000000 ^ k
theorem lb_mul {a b : Nat} (k m : Nat) (ha : a < lb k) (hb : b < lb m) : a * b < lb (k + m) := by
  unfold lb at *
  rw [Nat.pow_add]
  exact Nat.mul_lt_mul'' ha hb
theorem lb_add {a b : Nat} (k : Nat) (ha : a < lb k) (hb : b < lb k) : a + b < lb (k + 1) := by
  unfold lb at *
  rw [Nat.pow_succ]
  omega
theorem lb_le {a : Nat} (k m : Nat) (h : k ≤ m) (ha : a < lb k) : a < lb m := Nat.lt_of_lt_of_le ha (Nat.pow_le_pow_right (by decide) h)
theorem lb_one (k : Nat) (h : 0 < k) : 1 < lb k := Nat.one_lt_pow (by omega) (by decide)
theorem len_lt (t : List Nat) (htr : isTrim t) (k : Nat) (h : val t < lb k) : t.length ≤ k := by
  by_cases hne : t = []
  · rw [hne]; exact Nat.zero_le _
  · have h1 := val_ge t htr hne
    have h2 : t.length - 1 < k := by
      rcases Nat.lt_or_ge (t.length - 1) k with h3 | h3
      · exact h3
      · have h4 := Nat.pow_le_pow_right (n := 1000000000) (by decide) h3
        unfold lb at h
        omega
    omega
theorem IsI.tight {B : Nat} {w : World} {z : Value} {x : Int} {n k : Nat} (h : IsI B w z x n) (hx : x.natAbs < lb k) : IsI B w z x k := by
  obtain ⟨neg, v, t, e, hL, ht, hv, _⟩ := h
  exact ⟨neg, v, t, e, hL, ht, hv, len_lt t ht k (by rw [← hv, sg_abs] at hx; exact hx)⟩
theorem IsQR.tight {B : Nat} {w : World} {z : Value} {x y : Int} {n k : Nat} (h : IsQR B w z x y n) (hx : x.natAbs < lb k) (hy : y.natAbs < lb k) : IsQR B w z x y k := by
  obtain ⟨s1, v1, s2, v2, e, h1, h2⟩ := h
  exact ⟨s1, v1, s2, v2, e, h1.tight hx, h2.tight hy⟩
theorem numZ_lt {B : Nat} {w : World} {z : Value} {v : Int} {k : Nat} (h : IsN B w z v) (hv : v.natAbs < lb k) : NumZ B w z v k := by
  obtain ⟨neg, t, hz, hx⟩ := h
  exact ⟨neg, t, hz, hx, len_lt t hz.2.1 k (by rw [← hx, sg_abs] at hv; exact hv)⟩
theorem numZ_le {B : Nat} {w : World} {z : Value} {v : Int} {k n : Nat} (h : NumZ B w z v k) (hn : k ≤ n) : NumZ B w z v n := by
  obtain ⟨neg, t, hz, hx, hl⟩ := h
  exact ⟨neg, t, hz, hx, Nat.le_trans hl hn⟩
theorem lim_ok (s : ByteArray) (h : isIntB s = true) : okL (lim s) := by
  unfold isIntB at h
  simp only [Bool.and_eq_true, Bool.or_eq_true, decide_eq_true_eq, Bool.not_eq_true', decide_eq_false_iff_not, List.all_eq_true] at h
  obtain ⟨⟨⟨h1, h2⟩, h3⟩, h4⟩ := h
  have hdig : ∀ c ∈ (dgs s).data.toList, dig c := fun c hc => by have := h3 c hc; unfold isDig at this; simpa [dig] using this
  exact trimL_ok _ (chunks_ok _ hdig)
theorem val_lb (t : List Nat) (ho : okL t) (k : Nat) (hk : t.length ≤ k) : val t < lb k := val_lt_of t ho k hk
theorem lim_lt (s : ByteArray) (h : isIntB s = true) : val (lim s) < lb 280 := val_lb (lim s) (lim_ok s h) 280 (lim_len' s h)
theorem numT_lt (s : ByteArray) (h : isIntB s = true) : (numT s).natAbs < lb 280 := by
  unfold numT
  rw [sg_abs]
  exact lim_lt s h
theorem ratV_lt {s : ByteArray} {k : Option Nat} {x y : Int} (h : RatV s k x y) : x.natAbs < lb 280 ∧ y.natAbs < lb 280 ∧ 0 < y := by
  cases k with
  | none =>
    refine ⟨by rw [h.2.1]; exact numT_lt s h.1, ?_, by rw [h.2.2]; decide⟩
    rw [h.2.2]
    exact lb_one 280 (by decide)
  | some i =>
    refine ⟨by rw [h.2.2.1]; exact numT_lt _ h.1.1, by rw [h.2.2.2]; exact numT_lt _ h.1.2, ?_⟩
    have h1 := numT_pos _ h.2.1.2.2.2.1
    have h2 := h.2.1.1
    rw [h.2.2.2]
    omega
theorem mul_lt {x y : Int} (hx : x.natAbs < lb 6000) (hy : y.natAbs < lb 6000) : (x * y).natAbs < lb 12000 := by
  rw [Int.natAbs_mul]
  exact lb_mul 6000 6000 hx hy
theorem add_lt {x y : Int} (hx : x.natAbs < lb 12000) (hy : y.natAbs < lb 12000) : (x + y).natAbs < lb 12001 := by
  exact Nat.lt_of_le_of_lt (Int.natAbs_add_le x y) (lb_add 12000 hx hy)
/-- Two boxes of rationals and one for the answer. -/
structure BxR (h : Nat) (W : World) (s1 : Bool) (p1 : Option Addr) (l1 c1 : Nat) (s2 : Bool) (p2 : Option Addr) (l2 c2 : Nat) (s3 : Bool) (p3 : Option Addr) (l3 c3 : Nat) (s4 : Bool) (p4 : Option Addr) (l4 c4 : Nat) : Prop where
  a : Bx W h [.bool s1, .slice p1 l1 c1, .bool s2, .slice p2 l2 c2]
  b : Bx W (h + 1) [.bool s3, .slice p3 l3 c3, .bool s4, .slice p4 l4 c4]
  r : Bx W (h + 1 + 1) [.bool false, .slice none 0 0, .bool false, .slice none 0 0]
theorem BxR.below {h N : Nat} {W W' : World} {s1 : Bool} {p1 : Option Addr} {l1 c1 : Nat} {s2 : Bool} {p2 : Option Addr} {l2 c2 : Nat} {s3 : Bool} {p3 : Option Addr} {l3 c3 : Nat} {s4 : Bool} {p4 : Option Addr} {l4 c4 : Nat} (m : BxR h W s1 p1 l1 c1 s2 p2 l2 c2 s3 p3 l3 c3 s4 p4 l4 c4) (hN : h + 3 ≤ N) (hb : Below N W W') : BxR h W' s1 p1 l1 c1 s2 p2 l2 c2 s3 p3 l3 c3 s4 p4 l4 c4 :=
  ⟨m.a.below (by omega) hb, m.b.below (by omega) hb, m.r.below (by omega) hb⟩
theorem BxR.held {h : Nat} {W : World} {s1 : Bool} {p1 : Option Addr} {l1 c1 : Nat} {s2 : Bool} {p2 : Option Addr} {l2 c2 : Nat} {s3 : Bool} {p3 : Option Addr} {l3 c3 : Nat} {s4 : Bool} {p4 : Option Addr} {l4 c4 : Nat} (m : BxR h W s1 p1 l1 c1 s2 p2 l2 c2 s3 p3 l3 c3 s4 p4 l4 c4) : W.cell? ⟨h, 0, none⟩ = some (.bool s1) ∧ W.cell? ⟨h, 1, none⟩ = some (.slice p1 l1 c1) ∧ W.cell? ⟨h, 2, none⟩ = some (.bool s2) ∧ W.cell? ⟨h, 3, none⟩ = some (.slice p2 l2 c2) ∧ W.cell? ⟨h + 1, 0, none⟩ = some (.bool s3) ∧ W.cell? ⟨h + 1, 1, none⟩ = some (.slice p3 l3 c3) ∧ W.cell? ⟨h + 1, 2, none⟩ = some (.bool s4) ∧ W.cell? ⟨h + 1, 3, none⟩ = some (.slice p4 l4 c4) :=
  ⟨m.a.cell 0, m.a.cell 1, m.a.cell 2, m.a.cell 3, m.b.cell 0, m.b.cell 1, m.b.cell 2, m.b.cell 3⟩
theorem cell_far4 {W : World} {a : Addr} {v : Value} (g : Nat) (h : W.cell? a = some v) (hg : g ≠ a.block) (u0 u1 u2 u3 : Value) : ((((W.setCell ⟨g, 0, none⟩ u0).setCell ⟨g, 1, none⟩ u1).setCell ⟨g, 2, none⟩ u2).setCell ⟨g, 3, none⟩ u3).cell? a = some v := by
  rw [World.cell?_setCell_far _ _ _ _ hg, World.cell?_setCell_far _ _ _ _ hg, World.cell?_setCell_far _ _ _ _ hg, World.cell?_setCell_far _ _ _ _ hg]
  exact h
theorem held_put {h : Nat} {W : World} {s1 : Bool} {p1 : Option Addr} {l1 c1 : Nat} {s2 : Bool} {p2 : Option Addr} {l2 c2 : Nat} {s3 : Bool} {p3 : Option Addr} {l3 c3 : Nat} {s4 : Bool} {p4 : Option Addr} {l4 c4 : Nat} (m : W.cell? ⟨h, 0, none⟩ = some (.bool s1) ∧ W.cell? ⟨h, 1, none⟩ = some (.slice p1 l1 c1) ∧ W.cell? ⟨h, 2, none⟩ = some (.bool s2) ∧ W.cell? ⟨h, 3, none⟩ = some (.slice p2 l2 c2) ∧ W.cell? ⟨h + 1, 0, none⟩ = some (.bool s3) ∧ W.cell? ⟨h + 1, 1, none⟩ = some (.slice p3 l3 c3) ∧ W.cell? ⟨h + 1, 2, none⟩ = some (.bool s4) ∧ W.cell? ⟨h + 1, 3, none⟩ = some (.slice p4 l4 c4)) (g : Nat) (h0 : g ≠ h) (h1 : g ≠ h + 1) (u0 u1 u2 u3 : Value) : ((((W.setCell ⟨g, 0, none⟩ u0).setCell ⟨g, 1, none⟩ u1).setCell ⟨g, 2, none⟩ u2).setCell ⟨g, 3, none⟩ u3).cell? ⟨h, 0, none⟩ = some (.bool s1) ∧ ((((W.setCell ⟨g, 0, none⟩ u0).setCell ⟨g, 1, none⟩ u1).setCell ⟨g, 2, none⟩ u2).setCell ⟨g, 3, none⟩ u3).cell? ⟨h, 1, none⟩ = some (.slice p1 l1 c1) ∧ ((((W.setCell ⟨g, 0, none⟩ u0).setCell ⟨g, 1, none⟩ u1).setCell ⟨g, 2, none⟩ u2).setCell ⟨g, 3, none⟩ u3).cell? ⟨h, 2, none⟩ = some (.bool s2) ∧ ((((W.setCell ⟨g, 0, none⟩ u0).setCell ⟨g, 1, none⟩ u1).setCell ⟨g, 2, none⟩ u2).setCell ⟨g, 3, none⟩ u3).cell? ⟨h, 3, none⟩ = some (.slice p2 l2 c2) ∧ ((((W.setCell ⟨g, 0, none⟩ u0).setCell ⟨g, 1, none⟩ u1).setCell ⟨g, 2, none⟩ u2).setCell ⟨g, 3, none⟩ u3).cell? ⟨h + 1, 0, none⟩ = some (.bool s3) ∧ ((((W.setCell ⟨g, 0, none⟩ u0).setCell ⟨g, 1, none⟩ u1).setCell ⟨g, 2, none⟩ u2).setCell ⟨g, 3, none⟩ u3).cell? ⟨h + 1, 1, none⟩ = some (.slice p3 l3 c3) ∧ ((((W.setCell ⟨g, 0, none⟩ u0).setCell ⟨g, 1, none⟩ u1).setCell ⟨g, 2, none⟩ u2).setCell ⟨g, 3, none⟩ u3).cell? ⟨h + 1, 2, none⟩ = some (.bool s4) ∧ ((((W.setCell ⟨g, 0, none⟩ u0).setCell ⟨g, 1, none⟩ u1).setCell ⟨g, 2, none⟩ u2).setCell ⟨g, 3, none⟩ u3).cell? ⟨h + 1, 3, none⟩ = some (.slice p4 l4 c4) :=
  ⟨cell_far4 g m.1 h0 _ _ _ _, cell_far4 g m.2.1 h0 _ _ _ _, cell_far4 g m.2.2.1 h0 _ _ _ _, cell_far4 g m.2.2.2.1 h0 _ _ _ _, cell_far4 g m.2.2.2.2.1 h1 _ _ _ _, cell_far4 g m.2.2.2.2.2.1 h1 _ _ _ _, cell_far4 g m.2.2.2.2.2.2.1 h1 _ _ _ _, cell_far4 g m.2.2.2.2.2.2.2 h1 _ _ _ _⟩
end Go.Proofs.YtpimiboiogfhbaaGreatDoor
