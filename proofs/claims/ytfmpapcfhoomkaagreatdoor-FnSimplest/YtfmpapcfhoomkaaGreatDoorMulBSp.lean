import Derived.Test.YtfmpapcfhoomkaaGreatDoorMulZp
import Derived.Test.YtfmpapcfhoomkaaGreatDoorMulLimbsp
import Derived.Deep.QuietTactic
import Derived.BigQuiet
import Derived.WalkSmall
import Derived.Test.YtfmpapcfhoomkaaGreatDoorSpecSump
namespace Go.Proofs.YtfmpapcfhoomkaaGreatDoor
open Go.ChangeShapes Go.WideShapes Go.ChangeAt Go.RowKit
theorem sg_mul (s t : Bool) (u v : Nat) : sg (s != t) (u * v) = sg s u * sg t v := by
 cases s <;> cases t <;> simp [sg, Int.mul_neg, Int.neg_mul]
theorem l1Make_from (B : Nat) (neg : Bool) (v : Value) (l : List Nat) (w W : World) (h : IsL B w v l) (hb : Up w W) :
 Calls Tryz.prog 95 #[.bool neg, v] W fun e w' => ∃ z, e = .returned z ∧ IsZ B w' z neg (trimL l) ∧ Up w w' := by
 refine (l1Make_any B neg v l W (h.below hb)).mono ?_; rintro e we ⟨z, rfl, hmk, hbe⟩; exact ⟨z, rfl, (hmk _ _ (h.below hb)).below hbe, hb.trans (hbe.mono hb.size)⟩
set_option maxRecDepth 100000 in
set_option maxHeartbeats 8000000 in
theorem l1Mul_big (B : Nat) (x y : Int) (xn yn : Bool) (pa : Option Addr) (la ca : Nat) (pb : Option Addr) (lb cb : Nat) (na nb : Bool) (a b : List Nat) (w : World) (hBw : B ≤ w.heap.size)
 (hz : ((la : Int) == 0) = false ∨ ((la : Int) == 0) = true ∧ ((lb : Int) == 0) = false ∨ ((la : Int) == 0) = true ∧ ((lb : Int) == 0) = true ∧ (-1000000000000000000 < x ∧ x < 1000000000000000000) ∧ (-1000000000000000000 < y ∧ y < 1000000000000000000) ∧ 0 < x.natAbs ∧ 999999999999999999 / x.natAbs < y.natAbs)
 (hza : IsZ B w (.agg #[.int .i64 x, .bool xn, .slice pa la ca]) na a) (hzb : IsZ B w (.agg #[.int .i64 y, .bool yn, .slice pb lb cb]) nb b) (s t : Bool) (ha : ngZ x xn la = s) (hb : ngZ y yn lb = t) (hla : a.length ≤ 100000) (hlb : b.length ≤ 100000) :
 Calls Tryz.prog 49 #[.agg #[.int .i64 x, .bool xn, .slice pa la ca], .agg #[.int .i64 y, .bool yn, .slice pb lb cb]] w fun e w' => ∃ z, e = .returned z ∧ IsN w.heap.size w' z (sg s (val a) * sg t (val b)) ∧ Up w w' := by
 obtain ⟨i0, hinf, hz0, hz1, hz2⟩ := info_parts Tryz.info_u32; have HNA := Hd ha; have HNB := Hd hb; have HLA : Hid (a.length ≤ 100000 ∧ b.length ≤ 100000) := ⟨hla, hlb⟩; have HX := boxes_first w x xn pa la ca y yn pb lb cb 54; obtain ⟨W0, hW0⟩ := exW (((w.alloc (.cells #[.int .i64 x, .bool xn, .slice pa la ca] 54)).alloc (.cells #[.int .i64 y, .bool yn, .slice pb lb cb] 54)).alloc (.cells #[.int .i64 0, .bool false, .slice none 0 0] 54)); have HW0 := Hd hW0; have hB0 : Up w W0 := by rw [← hW0]; exact below_al (below_al (below_alloc _ _) _) _
 have HB0 := Hd hB0; have hsz : W0.heap.size = w.heap.size + 3 := by rw [← hW0]; simp
 have hlt0 : w.heap.size < W0.heap.size := by omega
 have hlt1 : w.heap.size + 1 < W0.heap.size := by omega
 have hlt2 : w.heap.size + 2 < W0.heap.size := by omega
 rw [hW0] at HX; have HS := Hd hsz; have HBW := Hd hBw; have HBX : Hid (∀ W, Up W0 W → Boxes w.heap.size W x xn pa la ca y yn pb lb cb) := fun W hW => HX.below (by omega) hW; have HZA : Hid (∀ W, Up W0 W → IsZ B W (.agg #[.int .i64 x, .bool xn, .slice pa la ca]) na a) := fun W hW => (hza.below hB0).below hW; have HZB : Hid (∀ W, Up W0 W → IsZ B W (.agg #[.int .i64 y, .bool yn, .slice pb lb cb]) nb b) := fun W hW => (hzb.below hB0).below hW; obtain ⟨a0, a1, a2, b0, b1, b2, r0, r1, r2, f0, f1, f2⟩ := HX; clear hW0 hsz ha hb hza hzb hB0 hBw; have HGO : Hid (∃ W1, Up W0 W1 ∧ ((((la : Int) == 0) = false ∧ W0.alloc (.cells #[.int .i64 x, .bool xn, .slice pa la ca] 54) = W1) ∨ (((la : Int) == 0) = true ∧ ((lb : Int) == 0) = false ∧ (W0.alloc (.cells #[.int .i64 x, .bool xn, .slice pa la ca] 54)).alloc (.cells #[.int .i64 y, .bool yn, .slice pb lb cb] 54) = W1) ∨ (((la : Int) == 0) = true ∧ ((lb : Int) == 0) = true ∧ (W0.alloc (.cells #[.int .i64 x, .bool xn, .slice pa la ca] 54)).alloc (.cells #[.int .i64 y, .bool yn, .slice pb lb cb] 54) = W1 ∧ Hid (-1000000000000000000 < x ∧ x < 1000000000000000000) ∧ Hid (-1000000000000000000 < y ∧ y < 1000000000000000000) ∧ ∃ X Y : Int, Hid ((x.natAbs : Int) = X) ∧ Hid ((y.natAbs : Int) = Y) ∧ 0 < X ∧ X < 1000000000000000000 ∧ 0 ≤ Y ∧ Y < 1000000000000000000 ∧ (X == 0) = false ∧ decide (Y ≤ 999999999999999999 / X) = false))) := by
  rcases hz with h | ⟨h, h'⟩ | ⟨h, h', hx, hy, hx0, hxy⟩
  ·exact ⟨_, below_alloc _ _, .inl ⟨h, rfl⟩⟩
  ·exact ⟨_, below_al (below_alloc _ _) _, .inr (.inl ⟨h, h', rfl⟩)⟩
  refine ⟨_, below_al (below_alloc _ _) _, .inr (.inr ⟨h, h', rfl, hx, hy, _, _, hide rfl, hide rfl, by omega, by omega, by omega, by omega, by rw [beq_eq_false_iff_ne]; omega, ?_⟩)⟩; rw [decide_eq_false_iff_not, Int.not_le, Int.ediv_lt_iff_lt_mul (by omega)]; have h3 := (Nat.div_lt_iff_lt_mul hx0).1 hxy; have h4 : ((y.natAbs * x.natAbs : Nat) : Int) = (y.natAbs : Int) * (x.natAbs : Int) := Int.natCast_mul _ _; rw [← h4]; omega
 obtain ⟨W1, hBW1, hz1'⟩ := HGO.o; have HBW1 := Hd hBW1; clear hz HGO hBW1
 go_enter Tryz.func49, Tryz.ntmps49
 go_wp2_with fail
 rw [HW0.o]; refine (l1IsSmall_ex _ _ _ _ _ _).mono ?_; rintro e w' ⟨rfl, rfl⟩
 rcases hz1' with ⟨hz, hW1⟩ | ⟨hz, hz', hW1⟩ | ⟨hz, hz', hW1, HXX, HYY, X, Y, HXE, HYE, q1, q2, q3, q4, q5, q6⟩
 all_goals
  have HW1 := hide hW1; clear hW1
  go_wp2_with (first
   | (go_at_call 92; refine (l1IsSmall_ex _ _ _ _ _ _).mono ?_; rintro e w' ⟨rfl, rfl⟩)
   | (go_at_call_of 101 (Value.int IntKind.i64 x); refine (l1Abs64_any _ _ HXX.o.1 HXX.o.2).mono ?_; rintro e w' ⟨rfl, rfl⟩; rw [HXE.o])
   | (go_at_call_of 101 (Value.int IntKind.i64 y); refine (l1Abs64_any _ _ HYY.o.1 HYY.o.2).mono ?_; rintro e w' ⟨rfl, rfl⟩; rw [HYE.o]))
  rw [HW1.o]; clear a0 a1 a2 b0 b1 b2 r0 r1 r2 f0 f1 f2; obtain ⟨a0, a1, a2, b0, b1, b2, r0, r1, r2, f0, f1, f2⟩ := HBX.o W1 HBW1.o; refine (l1Limbs_any B _ na a _ (HZA.o _ HBW1.o) (by have := HBW1.o.size; have := HS.o; have := HBW.o; omega)).mono ?_; rintro e wa ⟨va, rfl, hva, hba⟩; have HVA := Hd hva; have HBA : Hid (Up W0 wa) := HBW1.o.trans (hba.mono HBW1.o.size); clear a0 a1 a2 b0 b1 b2 r0 r1 r2 f0 f1 f2 hva hba; obtain ⟨a0, a1, a2, b0, b1, b2, r0, r1, r2, f0, f1, f2⟩ := HBX.o wa HBA.o
  go_wp2_with fail
  refine (l1Limbs_any B _ nb b _ (HZB.o _ HBA.o) (by have := HBA.o.size; have := HS.o; have := HBW.o; omega)).mono ?_; rintro e wb ⟨vb, rfl, hvb, hbb⟩; obtain ⟨qa, da, rfl, _⟩ := id HVA.o; obtain ⟨qb, db, rfl, _⟩ := id hvb; obtain ⟨_, _, _, haok, hca⟩ := (HVA.o.below hbb).cells; obtain ⟨_, _, _, hbok, hcb⟩ := hvb.cells; have HA := Hd hca; have HB := Hd hcb; have HBB : Hid (Up W0 wb) := HBA.o.trans (hbb.mono HBA.o.size); clear hca hcb hvb hbb a0 a1 a2 b0 b1 b2 r0 r1 r2 f0 f1 f2 hlt0 hlt1 hlt2
  go_wp2_with (at_make; refine wpList_make_full _ rfl _ _ 44 rfl wb.heap.size 107 i0 (.int .u32 0) 1 Tryz.underlying44 hinf hz0 hz1 .i64 .i64 _ _ (a.length + b.length + 1) rfl rfl (by first | rfl | omega) (by first | rfl | omega) (by first | omega | (rw [hz2]; omega)) (by unfold maxLen; omega) leR ?_)
  intro w1 hown hgr
  first | rw [made_zero] at hown | rw [made_zero'] at hown
  have hR : RowT w1 wb.heap.size (List.replicate (a.length + b.length + 1) 0) := (row_of_full hown).tail; have hB1 : Up wb w1 := (Below.refl _ _).grown hgr leR (fun k h => by cases h); clear hown hgr
  go_wp2
  go_loopw [53] (fun iv wr => ∃ (i : Nat) (L : List Nat), i ≤ a.length ∧ L.length = a.length + b.length + 1 ∧ okL L ∧ RowT wr wb.heap.size L ∧ (∀ j, i + b.length ≤ j → L.getD j 0 = 0) ∧ iv = .int .i64 i ∧
   val L = val (a.take i) * val b ∧ Up wb wr) (fun iv _ => a.length - (intOf iv).toNat)
  case atStart => exact ⟨0, _, by omega, by simp, fun x hx => by rw [List.eq_of_mem_replicate hx]; omega, hR, fun j hj => by simp [List.getD_eq_getElem?_getD, List.getElem?_replicate]; split <;> rfl, rfl, by simp [val_replicate, val], hB1⟩
  case round =>
   clear hR hB1; obtain ⟨i, A, hi, hLl, hLok, hR, hzr, rfl, hval, hB⟩ := hrel
   by_cases hia : i < a.length
   ·obtain ⟨ba, oa, rfl, hla', hca⟩ := HA.o i hia; have hxb := okL_getD a haok i hia; have HVT : Hid (val (a.take (i + 1)) = val (a.take i) + 1000000000 ^ i * a.getD i 0) := val_take_succ a i; obtain ⟨f, hf⟩ := exW (a.getD i 0); rw [hf] at hca hxb HVT; have HCA : Hid (∀ W, Up wb W → W.cell? ⟨ba, oa + i, none⟩ = some (.int .u32 (f : Nat))) := fun W hW => (hW.cell (p := ⟨ba, oa + i, none⟩) hla').trans hca; have HZR := Hd hzr; have HV := Hd hval; have HROW : Hid (okL A ∧ RowT wr wb.heap.size A ∧ Up wb wr) := ⟨hLok, hR, hB⟩; clear hR hzr hval hB hLok hf hca hla'
    go_wp2_with fail
    go_loopw [11, 58] (fun cv kv wk => ∃ (k c : Nat) (L : List Nat), k ≤ b.length ∧ c ≤ f ∧ L.length = A.length ∧ okL L ∧ RowT wk wb.heap.size L ∧ L.drop (i + k) = A.drop (i + k) ∧ cv = .int .u64 (c : Nat) ∧ kv = .int .i64 k ∧
     val L + 1000000000 ^ (i + k) * c = val A + 1000000000 ^ i * (f * val (b.take k)) ∧ Up wb wk) (fun _ kv _ => b.length - (intOf kv).toNat)
    case atStart => exact ⟨0, 0, A, by omega, by omega, rfl, HROW.o.1, HROW.o.2.1, rfl, rfl, rfl, by simp [val], HROW.o.2.2⟩
    case round =>
     obtain ⟨k, c, L, hk, hcf, hLA, hLok, hR, hdr, rfl, rfl, hval, hB⟩ := hrel
     by_cases hib : k < b.length
     ·have hcell := hR.cell (i + k) (by omega); have hxl := okL_getD L hLok (i + k) (by omega); obtain ⟨g, hx⟩ := exW (L.getD (i + k) 0); rw [hx] at hxl hcell; have hca := HCA.o _ hB; obtain ⟨bb, ob, rfl, hlb', hcb⟩ := HB.o k hib; rw [← hB.cell (p := ⟨bb, ob + k, none⟩) hlb'] at hcb; have hyb := okL_getD b hbok k hib; obtain ⟨h, hy⟩ := exW (b.getD k 0); rw [hy] at hcb hyb; obtain ⟨F, hF⟩ := exW (f * h); have hFb : F ≤ f * 999999999 := by rw [← hF]; exact Nat.mul_le_mul_left f (by omega)
      have hvs := val_set L (i + k) ((c + F + g) % 1000000000) (by omega); rw [hx] at hvs; have hst := scadd_step (1000000000 ^ (i + k)) _ _ _ _ c g F ((c + F + g) % 1000000000) ((c + F + g) / 1000000000) hval hvs (by omega); have HST : Hid (val (L.set (i + k) ((c + F + g) % 1000000000)) + 1000000000 ^ (i + (k + 1)) * ((c + F + g) / 1000000000) = val A + 1000000000 ^ i * (f * val (b.take (k + 1)))) := by
       unfold Hid
       rw [val_take_succ, hy, scadd_sum, hF, ← Nat.add_assoc, Nat.pow_succ]; exact hst
      have hfr := hR.frozen (i + k); have hRq : ∀ q, RowT (wr.drewN q) wb.heap.size L := fun q => hR; have HR1 : Hid (∀ (q : Nat) (v : Int), v = (((c + F + g) % 1000000000 : Nat) : Int) → RowT ((wr.drewN q).setCell ⟨wb.heap.size, i + k, none⟩ (.int .u32 v)) wb.heap.size (L.set (i + k) ((c + F + g) % 1000000000))) := fun q v hv => by
       rw [hv]; exact (hRq q).set (i + k) _ (by omega)
      have HB2 : Hid (∀ q u, Up wb ((wr.drewN q).setCell ⟨wb.heap.size, i + k, none⟩ u)) := fun q u => (below_drewN hB q).setCell leR u; have HOK : Hid (okL (L.set (i + k) ((c + F + g) % 1000000000))) := okL_set L hLok (i + k) _ (Nat.mod_lt _ (by decide)); have HDR : Hid ((L.set (i + k) ((c + F + g) % 1000000000)).drop (i + (k + 1)) = A.drop (i + (k + 1))) := drop_set_succ L A (i + k) _ hdr; have HCF : Hid ((c + F + g) / 1000000000 ≤ f) := by
       unfold Hid
       omega
      clear hst hval hx hy hR hRq hB hLok hdr hvs; obtain ⟨GG, hX⟩ : ∃ GG : Int, (g : Int) = GG := ⟨_, rfl⟩; have HX := Hd hX; have x1 : 0 ≤ GG := by omega
      have x2 : GG < 1000000000 := by omega
      rw [hX] at hcell; obtain ⟨C, hC⟩ : ∃ C : Int, (c : Int) = C := ⟨_, rfl⟩; have HC := Hd hC; have c1 : 0 ≤ C := by omega
      have c2 : C < 1000000000 := by omega
      rw [hC]; obtain ⟨G, hG⟩ : ∃ G : Int, (f : Int) = G := ⟨_, rfl⟩; rw [hG] at hca; obtain ⟨H, hY⟩ : ∃ H : Int, (h : Int) = H := ⟨_, rfl⟩; have hFI : (F : Int) = G * H := by rw [← hF, ← hG, ← hY]; rfl
      have HFI := Hd hFI; have g1 : 0 ≤ G * H := by rw [← hFI]; omega
      have g2 : G * H ≤ 999999999000000000 := by rw [← hFI]; omega
      have y1 : 0 ≤ H := by omega
      have y2 : H < 1000000000 := by omega
      have z1 : 0 ≤ G := by omega
      have z2 : G < 1000000000 := by omega
      rw [hY] at hcb; clear hX hxl hC hG hY hFI hyb hF hFb hcf hxb; have n1 : (i : Int) + (k : Int) < (a.length : Int) + (b.length : Int) + 1 := by omega
      have n2 : (i : Int) < (a.length : Int) := by omega
      have n3 : (k : Int) < (b.length : Int) := by omega
      go_wp2
      go_quiet (fail)
      go_wp2
      go_roundw
      case rel =>
       refine ⟨k + 1, (c + F + g) / 1000000000, L.set (i + k) ((c + F + g) % 1000000000), by omega, HCF.o, by simp [hLA], HOK.o, ?_, HDR.o, ?_, by go_num, HST.o, HB2.o _ _⟩
       ·exact HR1.o _ _ (by have := HX.o; have := HC.o; have := HFI.o; omega)
       ·congr 1; have := HX.o; have := HC.o; have := HFI.o; omega
      case measure => simp [intOf]; omega
     ·obtain rfl : k = b.length := by omega
      rw [List.take_of_length_le leR] at hval; have hcell := hR.cell (i + b.length) (by omega); have hfr := hR.frozen (i + b.length); have h0 : L.getD (i + b.length) 0 = 0 := (getD_of_drop L A (i + b.length) _ hdr leR).trans (HZR.o _ leR); have hvs := val_set L (i + b.length) c (by omega); rw [h0] at hvs; have HV4 : Hid (val (L.set (i + b.length) c) = val (a.take (i + 1)) * val b) := by
       unfold Hid
       rw [HVT.o]; exact mul_step _ _ _ _ _ _ _ c f HV.o hval hvs
      have HR4 : Hid (RowT (wr.setCell ⟨wb.heap.size, i + b.length, none⟩ (.int .u32 (c : Nat))) wb.heap.size (L.set (i + b.length) c)) := hR.set _ _ (by omega); have HB4 : Hid (Up wb (wr.setCell ⟨wb.heap.size, i + b.length, none⟩ (.int .u32 (c : Nat)))) := hB.setCell leR _; have HOK4 : Hid (okL (L.set (i + b.length) c) ∧ (L.set (i + b.length) c).length = a.length + b.length + 1) := ⟨okL_set L hLok _ _ (by omega), by simp; omega⟩; have HZ4 : Hid (∀ j, i + 1 + b.length ≤ j → (L.set (i + b.length) c).getD j 0 = 0) := fun j hj => by
       rw [getD_set_ne _ _ _ _ (by omega), getD_of_drop L A (i + b.length) j hdr (by omega)]; exact HZR.o j (by omega)
      have hcc : c < 1000000000 := by omega
      clear hR hLA hLok hdr hcf hval hB h0 hvs
      go_wp2
      go_roundw
      case rel => exact ⟨i + 1, L.set (i + b.length) c, by omega, HOK4.o.2, HOK4.o.1, HR4.o, HZ4.o, by go_num, HV4.o, HB4.o⟩
      case measure => simp [intOf]; omega
   ·obtain rfl : i = a.length := by omega
    rw [List.take_of_length_le leR] at hval; have HI : Hid (IsL wb.heap.size wr (.slice (some ⟨wb.heap.size, 0, none⟩) (a.length + b.length + 1) (a.length + b.length + 1)) A) := by
     have h := hR.isL (B := wb.heap.size) (cap := a.length + b.length + 1) leR hLok (by omega) (by unfold maxLen; omega); rw [hLl] at h; exact h
    have HV := Hd hval; have HKK : Hid (Up W0 wr) := HBB.o.trans (hB.mono HBB.o.size); have HSW : Hid (w.heap.size + 3 ≤ wb.heap.size ∧ wb.heap.size ≤ wr.heap.size) := ⟨by have := HBB.o.size; have := HS.o; omega, hB.size⟩; clear hval hR hB hLok hzr; obtain ⟨a0, a1, a2, b0, b1, b2, r0, r1, r2, f0, f1, f2⟩ := HBX.o wr HKK.o; have hs0 : w.heap.size < wr.heap.size := by have := HSW.o; omega
    have hs1 : w.heap.size + 1 < wr.heap.size := by have := HSW.o; omega
    have hs2 : w.heap.size + 2 < wr.heap.size := by have := HSW.o; omega
    go_wp2_with fail
    go_region_with (first
     | (go_at_call_of 94 (Value.int IntKind.i64 x); refine (l1Neg_ex _ _ _ _ _ _).mono ?_; rintro e w' ⟨rfl, rfl⟩; rw [HNA.o])
     | (go_at_call_of 94 (Value.int IntKind.i64 y); refine (l1Neg_ex _ _ _ _ _ _).mono ?_; rintro e w' ⟨rfl, rfl⟩; rw [HNB.o])
     | (go_at_call 95; refine (l1Make_from _ _ _ A wr _ HI.o ?_).mono ?_
        ·first | exact (below_al (below_alloc _ _) _).drew | exact below_al (below_alloc _ _) _
        rintro e we ⟨z, rfl, hmk, hbe⟩; have hN : IsN (w.heap.size + 3) we z (sg s (val a) * sg t (val b)) := ⟨s != t, trimL A, hmk.mono HSW.o.1, by rw [val_trimL, HV.o, sg_mul]⟩; have HN := Hd hN; have HEE : Hid (Up W0 we) := HKK.o.trans (hbe.mono HKK.o.size); have HBE : Hid (Up w we) := HB0.o.trans (HEE.o.mono (by have := HS.o; omega)); clear a0 a1 a2 b0 b1 b2 r0 r1 r2 f0 f1 f2; obtain ⟨a0, a1, a2, b0, b1, b2, r0, r1, r2, f0, f1, f2⟩ := HBX.o we HEE.o; obtain ⟨z0, zn, za, zl, zc, hzz⟩ := hN.shape; subst hzz; clear hmk hbe hN))
    all_goals
     try simp only [List.getElem_toArray, List.getElem_cons_succ, List.getElem_cons_zero, Act.put, List.setIfInBounds_toArray, List.set_cons_succ, List.set_cons_zero]
     go_wp2
     refine bodyPost_ret ?_ rfl ⟨_, rfl, (((HN.o.setCell _ _ (by simp)).setCell _ _ (by simp)).setCell _ _ (by simp)).mono (by omega), ((HBE.o.setCell (by simp; omega) _).setCell (by simp; omega) _).setCell (by simp; omega) _⟩; simp [results, Tryz.results49, go_sem, r0, r1, r2]
theorem l1Mul_any (B : Nat) (za zb : Value) (na nb : Bool) (a b : List Nat) (w : World) (hBw : B ≤ w.heap.size) (hza : IsZ B w za na a) (hzb : IsZ B w zb nb b) (hla : a.length ≤ 100000) (hlb : b.length ≤ 100000) :
 Calls Tryz.prog 49 #[za, zb] w fun e w' => ∃ z, e = .returned z ∧ IsN w.heap.size w' z (sg na (val a) * sg nb (val b)) ∧ Up w w' := by
 have hoa := hza.1; have hob := hzb.1; obtain ⟨x, xn, pa, la, ca, rfl, fa, ga⟩ := hza.form2; obtain ⟨y, yn, pb, lb, cb, rfl, fb, gb⟩ := hzb.form2
 by_cases h0 : la = 0 ∧ lb = 0
 ·have g1 := ga h0.1; have g2 := gb h0.2; have l1 := sg_lt na a hoa g1.1; have l2 := sg_lt nb b hob g2.1
  by_cases hs : (sg na (val a)).natAbs = 0 ∨ (sg na (val a)).natAbs ≠ 0 ∧ (sg nb (val b)).natAbs ≤ 999999999999999999 / (sg na (val a)).natAbs
  ·rw [g1.2, g2.2]; exact l1Mul_small _ _ w l1.1 l1.2 l2.1 l2.2 hs
  have e1 := g1.2; have e2 := g2.2; simp only [Value.agg.injEq, Array.mk.injEq, List.cons.injEq, Value.int.injEq, true_and, Value.bool.injEq, Value.slice.injEq, and_true] at e1 e2; obtain ⟨rfl, _⟩ := e1; obtain ⟨rfl, _⟩ := e2; have hp : 0 < (sg na (val a)).natAbs := by
   apply Nat.pos_of_ne_zero; intro h; exact hs (.inl h)
  have hz : ((la : Int) == 0) = true ∧ ((lb : Int) == 0) = true ∧ (-1000000000000000000 < sg na (val a) ∧ sg na (val a) < 1000000000000000000) ∧ (-1000000000000000000 < sg nb (val b) ∧ sg nb (val b) < 1000000000000000000) ∧ 0 < (sg na (val a)).natAbs ∧ 999999999999999999 / (sg na (val a)).natAbs < (sg nb (val b)).natAbs := by
   refine ⟨by rw [beq_iff_eq]; omega, by rw [beq_iff_eq]; omega, l1, l2, hp, ?_⟩; apply Nat.lt_of_not_le; intro h; exact hs (.inr ⟨by omega, h⟩)
  have h := l1Mul_big B _ _ xn yn pa la ca pb lb cb na nb a b w hBw (.inr (.inr hz)) hza hzb _ _ fa fb hla hlb; rw [sg_negOf, sg_negOf] at h; exact h
 have hz : ((la : Int) == 0) = false ∨ (((la : Int) == 0) = true ∧ ((lb : Int) == 0) = false) := by
  by_cases h : la = 0
  ·exact .inr ⟨by rw [beq_iff_eq]; omega, by rw [beq_eq_false_iff_ne]; omega⟩
  exact .inl (by rw [beq_eq_false_iff_ne]; omega)
 have h := l1Mul_big B x y xn yn pa la ca pb lb cb na nb a b w hBw (hz.elim .inl (fun h => .inr (.inl h))) hza hzb _ _ fa fb hla hlb; rw [sg_negOf, sg_negOf] at h; exact h
end Go.Proofs.YtfmpapcfhoomkaaGreatDoor
