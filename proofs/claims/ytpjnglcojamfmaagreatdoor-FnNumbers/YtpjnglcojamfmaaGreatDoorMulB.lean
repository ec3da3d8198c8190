import Derived.Test.YtpjnglcojamfmaaGreatDoorMulZ
import Derived.Test.YtpjnglcojamfmaaGreatDoorMulLimbs
import Derived.Deep.QuietTactic
import Derived.BigQuiet
import Derived.WalkSmall
namespace Go.Proofs.YtpjnglcojamfmaaGreatDoor
open Go.ChangeShapes Go.WideShapes Go.ChangeAt Go.RowKit
theorem sg_mul (s t : Bool) (u v : Nat) : sg (s != t) (u * v) = sg s u * sg t v := by
  cases s <;> cases t <;> simp [sg, Int.mul_neg, Int.neg_mul]
theorem l1Make_from (B : Nat) (neg : Bool) (v : Value) (l : List Nat) (w W : World) (h : IsL B w v l) (hb : Below w.heap.size w W) :
    Calls Tryz.prog 100 #[.bool neg, v] W fun e w' => ∃ z, e = .returned z ∧ IsZ B w' z neg (trimL l) ∧ Below w.heap.size w w' := by
  refine (l1Make_any B neg v l W (h.below hb)).mono ?_
  rintro e we ⟨z, rfl, hmk, hbe⟩
  exact ⟨z, rfl, (hmk _ _ (h.below hb)).below hbe, hb.trans (hbe.mono hb.size)⟩
set_option maxRecDepth 100000 in
set_option maxHeartbeats 8000000 in
theorem l1Mul_big (B : Nat) (x y : Int) (xn yn : Bool) (pa : Option Addr) (la ca : Nat) (pb : Option Addr) (lb cb : Nat) (na nb : Bool) (a b : List Nat) (w : World) (hBw : B ≤ w.heap.size)
    (hz : ((la : Int) == 0) = false ∨ ((la : Int) == 0) = true ∧ ((lb : Int) == 0) = false ∨ ((la : Int) == 0) = true ∧ ((lb : Int) == 0) = true ∧ (-1000000000000000000 < x ∧ x < 1000000000000000000) ∧ (-1000000000000000000 < y ∧ y < 1000000000000000000) ∧ 0 < x.natAbs ∧ 999999999999999999 / x.natAbs < y.natAbs)
    (hza : IsZ B w (.agg #[.int .i64 x, .bool xn, .slice pa la ca]) na a) (hzb : IsZ B w (.agg #[.int .i64 y, .bool yn, .slice pb lb cb]) nb b) (s t : Bool) (ha : ngZ x xn la = s) (hb : ngZ y yn lb = t) (hla : a.length ≤ 100000) (hlb : b.length ≤ 100000) :
    Calls Tryz.prog 52 #[.agg #[.int .i64 x, .bool xn, .slice pa la ca], .agg #[.int .i64 y, .bool yn, .slice pb lb cb]] w fun e w' => ∃ z, e = .returned z ∧ IsN w.heap.size w' z (sg s (val a) * sg t (val b)) ∧ Below w.heap.size w w' := by
  obtain ⟨i0, hinf, hz0, hz1, hz2⟩ := info_parts Tryz.info_u32
  have HNA : Hid (ngZ x xn la = s) := ha
  have HNB : Hid (ngZ y yn lb = t) := hb
  have HLA : Hid (a.length ≤ 100000 ∧ b.length ≤ 100000) := ⟨hla, hlb⟩
  have HX := boxes_first w x xn pa la ca y yn pb lb cb 55
  obtain ⟨W0, hW0⟩ : ∃ W0, (((w.alloc (.cells #[.int .i64 x, .bool xn, .slice pa la ca] 55)).alloc (.cells #[.int .i64 y, .bool yn, .slice pb lb cb] 55)).alloc (.cells #[.int .i64 0, .bool false, .slice none 0 0] 55)) = W0 := ⟨_, rfl⟩
  have HW0 : Hid ((((w.alloc (.cells #[.int .i64 x, .bool xn, .slice pa la ca] 55)).alloc (.cells #[.int .i64 y, .bool yn, .slice pb lb cb] 55)).alloc (.cells #[.int .i64 0, .bool false, .slice none 0 0] 55)) = W0) := hW0
  have hB0 : Below w.heap.size w W0 := by rw [← hW0]; exact below_al (below_al (below_alloc _ _) _) _
  have HB0 : Hid (Below w.heap.size w W0) := hB0
  have hsz : W0.heap.size = w.heap.size + 3 := by rw [← hW0]; simp
  have hlt0 : w.heap.size < W0.heap.size := by omega
  have hlt1 : w.heap.size + 1 < W0.heap.size := by omega
  have hlt2 : w.heap.size + 2 < W0.heap.size := by omega
  rw [hW0] at HX
  have HS : Hid (W0.heap.size = w.heap.size + 3) := hsz
  have HBW : Hid (B ≤ w.heap.size) := hBw
  have HBX : Hid (∀ W, Below W0.heap.size W0 W → Boxes w.heap.size W x xn pa la ca y yn pb lb cb) := fun W hW => HX.below (by omega) hW
  have HZA : Hid (∀ W, Below W0.heap.size W0 W → IsZ B W (.agg #[.int .i64 x, .bool xn, .slice pa la ca]) na a) := fun W hW => (hza.below hB0).below hW
  have HZB : Hid (∀ W, Below W0.heap.size W0 W → IsZ B W (.agg #[.int .i64 y, .bool yn, .slice pb lb cb]) nb b) := fun W hW => (hzb.below hB0).below hW
  obtain ⟨a0, a1, a2, b0, b1, b2, r0, r1, r2, f0, f1, f2⟩ := HX
  clear hW0 hsz ha hb hza hzb hB0 hBw
  have HGO : Hid (∃ W1, Below W0.heap.size W0 W1 ∧ ((((la : Int) == 0) = false ∧ W0.alloc (.cells #[.int .i64 x, .bool xn, .slice pa la ca] 55) = W1) ∨ (((la : Int) == 0) = true ∧ ((lb : Int) == 0) = false ∧ (W0.alloc (.cells #[.int .i64 x, .bool xn, .slice pa la ca] 55)).alloc (.cells #[.int .i64 y, .bool yn, .slice pb lb cb] 55) = W1) ∨ (((la : Int) == 0) = true ∧ ((lb : Int) == 0) = true ∧ (W0.alloc (.cells #[.int .i64 x, .bool xn, .slice pa la ca] 55)).alloc (.cells #[.int .i64 y, .bool yn, .slice pb lb cb] 55) = W1 ∧ Hid (-1000000000000000000 < x ∧ x < 1000000000000000000) ∧ Hid (-1000000000000000000 < y ∧ y < 1000000000000000000) ∧ ∃ X Y : Int, Hid ((x.natAbs : Int) = X) ∧ Hid ((y.natAbs : Int) = Y) ∧ 0 < X ∧ X < 1000000000000000000 ∧ 0 ≤ Y ∧ Y < 1000000000000000000 ∧ (X == 0) = false ∧ decide (Y ≤ 999999999999999999 / X) = false))) := by
    rcases hz with h | ⟨h, h'⟩ | ⟨h, h', hx, hy, hx0, hxy⟩
    · exact ⟨_, below_alloc _ _, .inl ⟨h, rfl⟩⟩
    · exact ⟨_, below_al (below_alloc _ _) _, .inr (.inl ⟨h, h', rfl⟩)⟩
    · refine ⟨_, below_al (below_alloc _ _) _, .inr (.inr ⟨h, h', rfl, hx, hy, _, _, hide rfl, hide rfl, by omega, by omega, by omega, by omega, by rw [beq_eq_false_iff_ne]; omega, ?_⟩)⟩
      rw [decide_eq_false_iff_not, Int.not_le, Int.ediv_lt_iff_lt_mul (by omega)]
      have h3 := (Nat.div_lt_iff_lt_mul hx0).1 hxy
      have h4 : ((y.natAbs * x.natAbs : Nat) : Int) = (y.natAbs : Int) * (x.natAbs : Int) := Int.natCast_mul _ _
      rw [← h4]
      omega
  obtain ⟨W1, hBW1, hz1'⟩ := HGO.out
  have HBW1 : Hid (Below W0.heap.size W0 W1) := hBW1
  clear hz HGO hBW1
  go_enter Tryz.func52, Tryz.ntmps52
  go_wp2_with fail
  rw [HW0.out]
  refine (l1IsSmall_ex _ _ _ _ _ _).mono ?_
  rintro e w' ⟨rfl, rfl⟩
  rcases hz1' with ⟨hz, hW1⟩ | ⟨hz, hz', hW1⟩ | ⟨hz, hz', hW1, HXX, HYY, X, Y, HXE, HYE, q1, q2, q3, q4, q5, q6⟩
  all_goals
    have HW1 := hide hW1
    clear hW1
    go_wp2_with (first
      | (go_at_call 97; refine (l1IsSmall_ex _ _ _ _ _ _).mono ?_; rintro e w' ⟨rfl, rfl⟩)
      | (go_at_call_of 106 (Value.int IntKind.i64 x); refine (l1Abs64_any _ _ HXX.out.1 HXX.out.2).mono ?_; rintro e w' ⟨rfl, rfl⟩; rw [HXE.out])
      | (go_at_call_of 106 (Value.int IntKind.i64 y); refine (l1Abs64_any _ _ HYY.out.1 HYY.out.2).mono ?_; rintro e w' ⟨rfl, rfl⟩; rw [HYE.out]))
    rw [HW1.out]
    clear a0 a1 a2 b0 b1 b2 r0 r1 r2 f0 f1 f2
    obtain ⟨a0, a1, a2, b0, b1, b2, r0, r1, r2, f0, f1, f2⟩ := HBX.out W1 HBW1.out
    refine (l1Limbs_any B _ na a _ (HZA.out _ HBW1.out) (by have := HBW1.out.size; have := HS.out; have := HBW.out; omega)).mono ?_
    rintro e wa ⟨va, rfl, hva, hba⟩
    have HVA : Hid (IsL B wa va a) := hva
    have HBA : Hid (Below W0.heap.size W0 wa) := HBW1.out.trans (hba.mono HBW1.out.size)
    clear a0 a1 a2 b0 b1 b2 r0 r1 r2 f0 f1 f2 hva hba
    obtain ⟨a0, a1, a2, b0, b1, b2, r0, r1, r2, f0, f1, f2⟩ := HBX.out wa HBA.out
    go_wp2_with fail
    refine (l1Limbs_any B _ nb b _ (HZB.out _ HBA.out) (by have := HBA.out.size; have := HS.out; have := HBW.out; omega)).mono ?_
    rintro e wb ⟨vb, rfl, hvb, hbb⟩
    obtain ⟨qa, da, rfl, _⟩ := id HVA.out
    obtain ⟨qb, db, rfl, _⟩ := id hvb
    obtain ⟨_, _, _, haok, hca⟩ := (HVA.out.below hbb).cells
    obtain ⟨_, _, _, hbok, hcb⟩ := hvb.cells
    have HA : Hid (∀ i, i < a.length → ∃ b off, qa = some ⟨b, off, none⟩ ∧ b < wb.heap.size ∧ wb.cell? ⟨b, off + i, none⟩ = some (.int .u32 (a.getD i 0 : Nat))) := hca
    have HB : Hid (∀ i, i < b.length → ∃ c off, qb = some ⟨c, off, none⟩ ∧ c < wb.heap.size ∧ wb.cell? ⟨c, off + i, none⟩ = some (.int .u32 (b.getD i 0 : Nat))) := hcb
    have HBB : Hid (Below W0.heap.size W0 wb) := HBA.out.trans (hbb.mono HBA.out.size)
    clear hca hcb hvb hbb a0 a1 a2 b0 b1 b2 r0 r1 r2 f0 f1 f2 hlt0 hlt1 hlt2
    go_wp2_with (at_make; refine wpList_make_full _ rfl _ _ 45 rfl wb.heap.size 112 i0 (.int .u32 0) 1 Tryz.underlying45 hinf hz0 hz1 .i64 .i64 _ _ (a.length + b.length + 1) rfl rfl (by first | rfl | omega) (by first | rfl | omega) (by first | omega | (rw [hz2]; omega)) (by unfold maxLen; omega) (Nat.le_refl _) ?_)
    intro w1 hown hgr
    first | rw [made_zero] at hown | rw [made_zero'] at hown
    have hR : RowT w1 wb.heap.size (List.replicate (a.length + b.length + 1) 0) := (row_of_full hown).tail
    have hB1 : Below wb.heap.size wb w1 := (Below.refl _ _).grown hgr (Nat.le_refl _) (fun k h => by cases h)
    clear hown hgr
    go_wp2
    go_loopw [53] (fun iv wr => ∃ (i : Nat) (L : List Nat), i ≤ a.length ∧ L.length = a.length + b.length + 1 ∧ okL L ∧ RowT wr wb.heap.size L ∧ (∀ j, i + b.length ≤ j → L.getD j 0 = 0) ∧ iv = .int .i64 i ∧
        val L = val (a.take i) * val b ∧ Below wb.heap.size wb wr) (fun iv _ => a.length - (intOf iv).toNat)
    case atStart => exact ⟨0, _, by omega, by simp, fun x hx => by rw [List.eq_of_mem_replicate hx]; omega, hR, fun j hj => by simp [List.getD_eq_getElem?_getD, List.getElem?_replicate]; split <;> rfl, rfl, by simp [val_replicate, val], hB1⟩
    case round =>
      clear hR hB1
      obtain ⟨i, A, hi, hLl, hLok, hR, hzr, rfl, hval, hB⟩ := hrel
      by_cases hia : i < a.length
      · obtain ⟨ba, oa, rfl, hla', hca⟩ := HA.out i hia
        have hxb := okL_getD a haok i hia
        have HVT : Hid (val (a.take (i + 1)) = val (a.take i) + 1000000000 ^ i * a.getD i 0) := val_take_succ a i
        obtain ⟨f, hf⟩ : ∃ f, a.getD i 0 = f := ⟨_, rfl⟩
        rw [hf] at hca hxb HVT
        have HCA : Hid (∀ W, Below wb.heap.size wb W → W.cell? ⟨ba, oa + i, none⟩ = some (.int .u32 (f : Nat))) := fun W hW => (hW.cell (p := ⟨ba, oa + i, none⟩) hla').trans hca
        have HZR : Hid (∀ j, i + b.length ≤ j → A.getD j 0 = 0) := hzr
        have HV : Hid (val A = val (a.take i) * val b) := hval
        have HROW : Hid (okL A ∧ RowT wr wb.heap.size A ∧ Below wb.heap.size wb wr) := ⟨hLok, hR, hB⟩
        clear hR hzr hval hB hLok hf hca hla'
        go_wp2_with fail
        go_loopw [11, 58] (fun cv kv wk => ∃ (k c : Nat) (L : List Nat), k ≤ b.length ∧ c ≤ f ∧ L.length = A.length ∧ okL L ∧ RowT wk wb.heap.size L ∧ L.drop (i + k) = A.drop (i + k) ∧ cv = .int .u64 (c : Nat) ∧ kv = .int .i64 k ∧
            val L + 1000000000 ^ (i + k) * c = val A + 1000000000 ^ i * (f * val (b.take k)) ∧ Below wb.heap.size wb wk) (fun _ kv _ => b.length - (intOf kv).toNat)
        case atStart => exact ⟨0, 0, A, by omega, by omega, rfl, HROW.out.1, HROW.out.2.1, rfl, rfl, rfl, by simp [val], HROW.out.2.2⟩
        case round =>
          obtain ⟨k, c, L, hk, hcf, hLA, hLok, hR, hdr, rfl, rfl, hval, hB⟩ := hrel
          by_cases hib : k < b.length
          · have hcell := hR.cell (i + k) (by omega)
            have hxl := okL_getD L hLok (i + k) (by omega)
            obtain ⟨g, hx⟩ : ∃ g, L.getD (i + k) 0 = g := ⟨_, rfl⟩
            rw [hx] at hxl hcell
            have hca := HCA.out _ hB
            obtain ⟨bb, ob, rfl, hlb', hcb⟩ := HB.out k hib
            rw [← hB.cell (p := ⟨bb, ob + k, none⟩) hlb'] at hcb
            have hyb := okL_getD b hbok k hib
            obtain ⟨h, hy⟩ : ∃ h, b.getD k 0 = h := ⟨_, rfl⟩
            rw [hy] at hcb hyb
            obtain ⟨F, hF⟩ : ∃ F, f * h = F := ⟨_, rfl⟩
            have hFb : F ≤ f * 999999999 := by rw [← hF]; exact Nat.mul_le_mul_left f (by omega)
            have hvs := val_set L (i + k) ((c + F + g) % 1000000000) (by omega)
            rw [hx] at hvs
            have hst := scadd_step (1000000000 ^ (i + k)) _ _ _ _ c g F ((c + F + g) % 1000000000) ((c + F + g) / 1000000000) hval hvs (by omega)
            have HST : Hid (val (L.set (i + k) ((c + F + g) % 1000000000)) + 1000000000 ^ (i + (k + 1)) * ((c + F + g) / 1000000000) = val A + 1000000000 ^ i * (f * val (b.take (k + 1)))) := by
              show val (L.set (i + k) ((c + F + g) % 1000000000)) + 1000000000 ^ (i + (k + 1)) * ((c + F + g) / 1000000000) = val A + 1000000000 ^ i * (f * val (b.take (k + 1)))
              rw [val_take_succ, hy, scadd_sum, hF, ← Nat.add_assoc, Nat.pow_succ]
              exact hst
            have hfr := hR.frozen (i + k)
            have hRq : ∀ q, RowT (wr.drewN q) wb.heap.size L := fun q => hR
            have HR1 : Hid (∀ (q : Nat) (v : Int), v = (((c + F + g) % 1000000000 : Nat) : Int) → RowT ((wr.drewN q).setCell ⟨wb.heap.size, i + k, none⟩ (.int .u32 v)) wb.heap.size (L.set (i + k) ((c + F + g) % 1000000000))) := fun q v hv => by
              rw [hv]
              exact (hRq q).set (i + k) _ (by omega)
            have HB2 : Hid (∀ q u, Below wb.heap.size wb ((wr.drewN q).setCell ⟨wb.heap.size, i + k, none⟩ u)) := fun q u => (below_drewN hB q).setCell (Nat.le_refl _) u
            have HOK : Hid (okL (L.set (i + k) ((c + F + g) % 1000000000))) := okL_set L hLok (i + k) _ (Nat.mod_lt _ (by decide))
            have HDR : Hid ((L.set (i + k) ((c + F + g) % 1000000000)).drop (i + (k + 1)) = A.drop (i + (k + 1))) := drop_set_succ L A (i + k) _ hdr
            have HCF : Hid ((c + F + g) / 1000000000 ≤ f) := by
              show (c + F + g) / 1000000000 ≤ f
              omega
            clear hst hval hx hy hR hRq hB hLok hdr hvs
            obtain ⟨GG, hX⟩ : ∃ GG : Int, (g : Int) = GG := ⟨_, rfl⟩
            have HX : Hid ((g : Int) = GG) := hX
            have x1 : 0 ≤ GG := by omega
            have x2 : GG < 1000000000 := by omega
            rw [hX] at hcell
            obtain ⟨C, hC⟩ : ∃ C : Int, (c : Int) = C := ⟨_, rfl⟩
            have HC : Hid ((c : Int) = C) := hC
            have c1 : 0 ≤ C := by omega
            have c2 : C < 1000000000 := by omega
            rw [hC]
            obtain ⟨G, hG⟩ : ∃ G : Int, (f : Int) = G := ⟨_, rfl⟩
            rw [hG] at hca
            obtain ⟨H, hY⟩ : ∃ H : Int, (h : Int) = H := ⟨_, rfl⟩
            have hFI : (F : Int) = G * H := by rw [← hF, ← hG, ← hY]; rfl
            have HFI : Hid ((F : Int) = G * H) := hFI
            have g1 : 0 ≤ G * H := by rw [← hFI]; omega
            have g2 : G * H ≤ 999999999000000000 := by rw [← hFI]; omega
            have y1 : 0 ≤ H := by omega
            have y2 : H < 1000000000 := by omega
            have z1 : 0 ≤ G := by omega
            have z2 : G < 1000000000 := by omega
            rw [hY] at hcb
            clear hX hxl hC hG hY hFI hyb hF hFb hcf hxb
            have n1 : (i : Int) + (k : Int) < (a.length : Int) + (b.length : Int) + 1 := by omega
            have n2 : (i : Int) < (a.length : Int) := by omega
            have n3 : (k : Int) < (b.length : Int) := by omega
            go_wp2
            go_quiet (fail)
            go_wp2
            go_roundw
            case rel =>
              refine ⟨k + 1, (c + F + g) / 1000000000, L.set (i + k) ((c + F + g) % 1000000000), by omega, HCF.out, by simp [hLA], HOK.out, ?_, HDR.out, ?_, by go_num, HST.out, HB2.out _ _⟩
              · exact HR1.out _ _ (by have := HX.out; have := HC.out; have := HFI.out; omega)
              · congr 1; have := HX.out; have := HC.out; have := HFI.out; omega
            case measure => simp [intOf]; omega
          · obtain rfl : k = b.length := by omega
            rw [List.take_of_length_le (Nat.le_refl _)] at hval
            have hcell := hR.cell (i + b.length) (by omega)
            have hfr := hR.frozen (i + b.length)
            have h0 : L.getD (i + b.length) 0 = 0 := (getD_of_drop L A (i + b.length) _ hdr (Nat.le_refl _)).trans (HZR.out _ (Nat.le_refl _))
            have hvs := val_set L (i + b.length) c (by omega)
            rw [h0] at hvs
            have HV4 : Hid (val (L.set (i + b.length) c) = val (a.take (i + 1)) * val b) := by
              show val (L.set (i + b.length) c) = val (a.take (i + 1)) * val b
              rw [HVT.out]
              exact mul_step _ _ _ _ _ _ _ c f HV.out hval hvs
            have HR4 : Hid (RowT (wr.setCell ⟨wb.heap.size, i + b.length, none⟩ (.int .u32 (c : Nat))) wb.heap.size (L.set (i + b.length) c)) := hR.set _ _ (by omega)
            have HB4 : Hid (Below wb.heap.size wb (wr.setCell ⟨wb.heap.size, i + b.length, none⟩ (.int .u32 (c : Nat)))) := hB.setCell (Nat.le_refl _) _
            have HOK4 : Hid (okL (L.set (i + b.length) c) ∧ (L.set (i + b.length) c).length = a.length + b.length + 1) := ⟨okL_set L hLok _ _ (by omega), by simp; omega⟩
            have HZ4 : Hid (∀ j, i + 1 + b.length ≤ j → (L.set (i + b.length) c).getD j 0 = 0) := fun j hj => by
              rw [getD_set_ne _ _ _ _ (by omega), getD_of_drop L A (i + b.length) j hdr (by omega)]
              exact HZR.out j (by omega)
            have hcc : c < 1000000000 := by omega
            clear hR hLA hLok hdr hcf hval hB h0 hvs
            go_wp2
            go_roundw
            case rel => exact ⟨i + 1, L.set (i + b.length) c, by omega, HOK4.out.2, HOK4.out.1, HR4.out, HZ4.out, by go_num, HV4.out, HB4.out⟩
            case measure => simp [intOf]; omega
      · obtain rfl : i = a.length := by omega
        rw [List.take_of_length_le (Nat.le_refl _)] at hval
        have HI : Hid (IsL wb.heap.size wr (.slice (some ⟨wb.heap.size, 0, none⟩) (a.length + b.length + 1) (a.length + b.length + 1)) A) := by
          have h := hR.isL (B := wb.heap.size) (cap := a.length + b.length + 1) (Nat.le_refl _) hLok (by omega) (by unfold maxLen; omega)
          rw [hLl] at h
          exact h
        have HV : Hid (val A = val a * val b) := hval
        have HKK : Hid (Below W0.heap.size W0 wr) := HBB.out.trans (hB.mono HBB.out.size)
        have HSW : Hid (w.heap.size + 3 ≤ wb.heap.size ∧ wb.heap.size ≤ wr.heap.size) := ⟨by have := HBB.out.size; have := HS.out; omega, hB.size⟩
        clear hval hR hB hLok hzr
        obtain ⟨a0, a1, a2, b0, b1, b2, r0, r1, r2, f0, f1, f2⟩ := HBX.out wr HKK.out
        have hs0 : w.heap.size < wr.heap.size := by have := HSW.out; omega
        have hs1 : w.heap.size + 1 < wr.heap.size := by have := HSW.out; omega
        have hs2 : w.heap.size + 2 < wr.heap.size := by have := HSW.out; omega
        go_wp2_with fail
        go_region_with (first
          | (go_at_call_of 99 (Value.int IntKind.i64 x); refine (l1Neg_ex _ _ _ _ _ _).mono ?_; rintro e w' ⟨rfl, rfl⟩; rw [HNA.out])
          | (go_at_call_of 99 (Value.int IntKind.i64 y); refine (l1Neg_ex _ _ _ _ _ _).mono ?_; rintro e w' ⟨rfl, rfl⟩; rw [HNB.out])
          | (go_at_call 100; refine (l1Make_from _ _ _ A wr _ HI.out ?_).mono ?_
             · first | exact (below_al (below_alloc _ _) _).drew | exact below_al (below_alloc _ _) _
             rintro e we ⟨z, rfl, hmk, hbe⟩
             have hN : IsN (w.heap.size + 3) we z (sg s (val a) * sg t (val b)) := ⟨s != t, trimL A, hmk.mono HSW.out.1, by rw [val_trimL, HV.out, sg_mul]⟩
             have HN : Hid (IsN (w.heap.size + 3) we z (sg s (val a) * sg t (val b))) := hN
             have HEE : Hid (Below W0.heap.size W0 we) := HKK.out.trans (hbe.mono HKK.out.size)
             have HBE : Hid (Below w.heap.size w we) := HB0.out.trans (HEE.out.mono (by have := HS.out; omega))
             clear a0 a1 a2 b0 b1 b2 r0 r1 r2 f0 f1 f2
             obtain ⟨a0, a1, a2, b0, b1, b2, r0, r1, r2, f0, f1, f2⟩ := HBX.out we HEE.out
             obtain ⟨z0, zn, za, zl, zc, hzz⟩ := hN.shape
             subst hzz
             clear hmk hbe hN))
        all_goals
          try simp only [List.getElem_toArray, List.getElem_cons_succ, List.getElem_cons_zero, Act.put, List.setIfInBounds_toArray, List.set_cons_succ, List.set_cons_zero]
          go_wp2
          refine bodyPost_ret ?_ rfl ⟨_, rfl, (((HN.out.setCell _ _ (by simp)).setCell _ _ (by simp)).setCell _ _ (by simp)).mono (by omega), ((HBE.out.setCell (by simp; omega) _).setCell (by simp; omega) _).setCell (by simp; omega) _⟩
          simp [results, Tryz.results52, go_sem, r0, r1, r2]
end Go.Proofs.YtpjnglcojamfmaaGreatDoor
